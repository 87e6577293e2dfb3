"""What the directory does with a message."""

from portadmit.values import DAY, keyed_sum
from portadmit.world import ANSWER, CHALLENGE, GOT, HELLO, NO, OVER, YES, Attempt, Begun, draw, send


def may_be_admitted(world, who, host):
    person = world.persons.get(who)
    if person is None or person.host != host:
        return False
    return person.barred == 0 and person.locked <= world.now


def know(world, place, n, who, host):
    challenge = draw(world)
    world.known[n] = Attempt(place, who, host, challenge, world.now + world.life)
    send(world, (CHALLENGE, place, n, challenge))


def take_hello(world, place, n, who, host):
    attempt = world.known.get(n)
    if attempt is not None:
        if attempt.decided is not None:
            send(world, attempt.decided)
        else:
            send(world, (CHALLENGE, place, n, attempt.challenge))
    elif not may_be_admitted(world, who, host):
        send(world, (NO, place, n))
    elif len(world.known) < world.asks:
        know(world, place, n, who, host)


def hours_fit(rule, time):
    if rule.since <= rule.till:
        return rule.since <= time <= rule.till
    # These hours go over midnight.
    return time >= rule.since or time <= rule.till


def first_rule(world, person, place):
    time = world.now % DAY
    for rule in world.rules:
        is_in = person.groups[rule.group] == 1
        if is_in and rule.low <= place <= rule.high and hours_fit(rule, time):
            return rule
    return None


def add_wrong(world, person):
    person.wrong += 1
    if person.wrong >= world.most_wrong:
        person.wrong = 0
        person.locked = world.now + world.lock


def begin_session(world, n, attempt, rule):
    number = draw(world)
    over = world.now + rule.length
    world.begun.append(Begun(number, attempt.who, attempt.host, attempt.port, over))
    return (YES, attempt.port, n, number, rule.vlan, rule.length, rule.again)


def decide(world, n, attempt, x):
    no = (NO, attempt.port, n)
    # Barring, locking and the person's going may have come since the hello.
    if not may_be_admitted(world, attempt.who, attempt.host):
        return no
    person = world.persons[attempt.who]
    if x != keyed_sum(person.secret, attempt.challenge):
        add_wrong(world, person)
        return no
    person.wrong = 0
    rule = first_rule(world, person, attempt.port)
    if rule is None:
        return no
    return begin_session(world, n, attempt, rule)


def send_overs_elsewhere(world, host, place):
    for begun in world.begun:
        if begun.host == host and begun.port != place:
            send(world, (OVER, begun.number))


def take_answer(world, n, challenge, x):
    attempt = world.known.get(n)
    if attempt is None or attempt.challenge != challenge:
        return
    if attempt.decided is not None:
        send(world, attempt.decided)
        return
    attempt.decided = decide(world, n, attempt, x)
    send(world, attempt.decided)
    if attempt.decided[0] == YES:
        send_overs_elsewhere(world, attempt.host, attempt.port)


def take_count(world, number, frames, closed):
    # Messages may come twice and in any order: an account never goes back.
    had = world.accounts.get(number, (0, 0))
    world.accounts[number] = (max(had[0], frames), max(had[1], closed))
    if closed == 1:
        world.begun = [begun for begun in world.begun if begun.number != number]
        send(world, (GOT, number, frames))


def directory_takes(world, message):
    if message[0] == HELLO:
        take_hello(world, message[1], message[2], message[3], message[4])
    elif message[0] == ANSWER:
        take_answer(world, message[1], message[2], message[3])
    else:
        take_count(world, message[1], message[2], message[3])
