"""The calls on the directory: its persons, its rules and its reboot."""

from portadmit.codes import MEMBER, NORULES, PERSON, REBOOT, RULE, SECRET, UNPERSON
from portadmit.values import all_within, is_choice, is_group, is_host, is_secret, is_who
from portadmit.world import OVER, Person, Rule, send

MOST_PERSONS = 256
MOST_RULES = 64
RULE_RANGES = (
    (0, 63), (0, 63), (0, 63), (0, 86399), (0, 86399), (1, 4094), (1, 1000000), (1, 1000000),
)


def has_host(world, host):
    return any([person.host == host for person in world.persons.values()])


def add_person(world, who, secret, host):
    if not (is_who(who) and is_secret(secret) and is_host(host)):
        return [-1]
    if who in world.persons:
        return [-2]
    if has_host(world, host):
        return [-3]
    if len(world.persons) >= MOST_PERSONS:
        return [-4]
    world.persons[who] = Person(secret, host)
    return [0]


def send_overs(world, who):
    for begun in world.begun:
        if begun.who == who:
            send(world, (OVER, begun.number))


def drop_person(world, who):
    if who not in world.persons:
        return [-1]
    world.persons.pop(who)
    send_overs(world, who)
    return [0]


def set_secret(world, who, secret):
    if who not in world.persons:
        return [-1]
    if not is_secret(secret):
        return [-2]
    person = world.persons[who]
    person.secret = secret
    return [0]


def set_member(world, who, group, x):
    if who not in world.persons:
        return [-1]
    if not is_group(group):
        return [-2]
    if not is_choice(x):
        return [-3]
    person = world.persons[who]
    person.groups[group] = x
    return [0]


def add_rule(world, row):
    if not all_within(row, RULE_RANGES):
        return [-1]
    if len(world.rules) >= MOST_RULES:
        return [-2]
    world.rules.append(Rule(row))
    return [0]


def drop_rules(world):
    world.rules = []
    return [0]


def set_barred(world, who, x):
    if who not in world.persons:
        return [-1]
    if not is_choice(x):
        return [-2]
    person = world.persons[who]
    person.barred = x
    if x == 1:
        send_overs(world, who)
    return [0]


def reboot(world):
    world.known = {}
    world.begun = []
    return [0]


def directory_call(world, code, row):
    if code == PERSON:
        return add_person(world, row[0], row[1], row[2])
    if code == UNPERSON:
        return drop_person(world, row[0])
    if code == SECRET:
        return set_secret(world, row[0], row[1])
    if code == MEMBER:
        return set_member(world, row[0], row[1], row[2])
    if code == RULE:
        return add_rule(world, row)
    if code == NORULES:
        return drop_rules(world)
    if code == REBOOT:
        return reboot(world)
    return set_barred(world, row[0], row[1])
