"""The calls that only tell: keyed, port, bag, account, whois, counts."""

from portadmit.admitting import count_sessions
from portadmit.codes import ACCOUNT, BAG, KEYED, PORT, WHOIS
from portadmit.switch import is_port
from portadmit.values import MOST_CHALLENGE, is_secret, keyed_sum, within
from portadmit.world import ASKING, CHALLENGED, CHECKING, HELD, LOOKING


def rest_until(world, time):
    return max(time - world.now, 0)


def tell_keyed(secret, challenge):
    if not (is_secret(secret) and within(challenge, 0, MOST_CHALLENGE)):
        return [-1]
    return [0, keyed_sum(secret, challenge)]


def stand_numbers(world, stand):
    rest = rest_until(world, stand.due)
    attempt = [stand.kind, stand.n, stand.who, stand.host]
    if stand.kind == ASKING:
        return [stand.kind, stand.left, rest]
    if stand.kind == LOOKING:
        return attempt + [stand.left, rest]
    if stand.kind == CHALLENGED:
        return attempt + [stand.challenge, rest]
    if stand.kind == CHECKING:
        return attempt + [stand.challenge, stand.x, stand.left, rest]
    if stand.kind == HELD:
        return [stand.kind, rest]
    return [stand.kind]


def session_numbers(world, session):
    if session is None:
        return [0]
    until = rest_until(world, session.until)
    again = rest_until(world, session.again)
    return [1, session.number, session.who, session.host, session.vlan, until, again, session.frames]


def tell_port(world, place):
    if not is_port(world, place):
        return [-1]
    port = world.ports[place]
    return [0] + stand_numbers(world, port.stand) + session_numbers(world, port.session) + [port.guest]


def tell_bag(world):
    told = [0, len(world.bag)]
    for message in world.bag:
        told.extend(message)
    return told


def tell_account(world, number):
    if number not in world.accounts:
        return [-1]
    account = world.accounts[number]
    return [0, account[0], account[1]]


def tell_person(world, who):
    if who not in world.persons:
        return [-1]
    person = world.persons[who]
    groups = [group for group, inside in enumerate(person.groups) if inside == 1]
    locked = rest_until(world, person.locked)
    return [0, person.host, person.barred, person.wrong, locked, len(groups)] + groups


def tell_counts(world):
    at_switch = [count_sessions(world), len(world.records)]
    at_directory = [len(world.persons), len(world.rules), len(world.known), len(world.begun)]
    return [0, world.now, world.book, world.lost] + at_switch + at_directory


def telling_call(world, code, row):
    if code == KEYED:
        return tell_keyed(row[0], row[1])
    if code == PORT:
        return tell_port(world, row[0])
    if code == BAG:
        return tell_bag(world)
    if code == ACCOUNT:
        return tell_account(world, row[0])
    if code == WHOIS:
        return tell_person(world, row[0])
    return tell_counts(world)
