"""What the switch does with a message, and the ways in which an attempt or a session ends."""

from portadmit.switch import ask_anew, end_session
from portadmit.world import CHALLENGE, CHALLENGED, CHECKING, HELD, INSIDE, LOOKING, NO, OVER, YES
from portadmit.world import Session, Stand


def hold_port(world, port):
    port.stand = Stand(HELD, world.now + world.hold)


def come_to_nothing(world, port):
    session = port.session
    if session is None:
        hold_port(world, port)
    else:
        # When an inside port is due, its session tells.
        port.stand = Stand(INSIDE, 0)
        session.again = world.now + world.hold


def deny(world, port):
    end_session(world, port)
    hold_port(world, port)


def put_out(world, port):
    end_session(world, port)
    if port.stand.kind == INSIDE:
        ask_anew(world, port)


def take_challenge(world, port, n, challenge):
    asked = port.stand
    if asked.kind != LOOKING or asked.n != n:
        return
    stand = Stand(CHALLENGED, world.now + world.wait)
    stand.n = n
    stand.who = asked.who
    stand.host = asked.host
    stand.challenge = challenge
    port.stand = stand


def count_sessions(world):
    return len([port for port in world.ports if port.session is not None])


def put_out_elsewhere(world, place, host):
    for other, port in enumerate(world.ports):
        if other != place and port.session is not None and port.session.host == host:
            put_out(world, port)


def admit(world, place, session):
    put_out_elsewhere(world, place, session.host)
    port = world.ports[place]
    end_session(world, port)
    port.stand = Stand(INSIDE, 0)
    port.session = session


def take_yes(world, message):
    place = message[1]
    port = world.ports[place]
    stand = port.stand
    if stand.kind != CHECKING or stand.n != message[2]:
        return
    until = stand.first + message[5]
    if until <= world.now or count_sessions(world) + len(world.records) >= world.most_records:
        come_to_nothing(world, port)
    else:
        again = world.now + message[6]
        admit(world, place, Session(message[3], stand.who, stand.host, message[4], until, again))


def take_no(world, port, n):
    if port.stand.kind in (LOOKING, CHECKING) and port.stand.n == n:
        deny(world, port)


def take_over(world, number):
    for port in world.ports:
        if port.session is not None and port.session.number == number:
            put_out(world, port)


def take_got(world, number, frames):
    world.records = [record for record in world.records if record != (number, frames)]


def switch_takes(world, message):
    if message[0] == CHALLENGE:
        take_challenge(world, world.ports[message[1]], message[2], message[3])
    elif message[0] == YES:
        take_yes(world, message)
    elif message[0] == NO:
        take_no(world, world.ports[message[1]], message[2])
    elif message[0] == OVER:
        take_over(world, message[1])
    else:
        take_got(world, message[1], message[2])
