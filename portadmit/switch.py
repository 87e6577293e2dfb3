"""The calls on the switch: what happens at its ports."""

from portadmit.codes import BYE, FRAME, GUEST, PLUG, REPLY, REPORT, SAY, UNPLUG
from portadmit.values import MOST_FRAMES, MOST_REPLY, MOST_VLAN, is_host, is_who, within
from portadmit.world import ANSWER, COUNT, HELLO, Stand, draw, send
from portadmit.world import AS_GUEST, ASKING, CHALLENGED, CHECKING, DOWN, HELD, LOOKING


def is_port(world, place):
    return within(place, 0, len(world.ports) - 1)


def stand_waiting(world, kind):
    stand = Stand(kind, world.now + world.wait)
    stand.left = world.tries - 1
    return stand


def ask_anew(world, port):
    port.stand = stand_waiting(world, ASKING)


def end_session(world, port):
    session = port.session
    if session is not None:
        world.records.append((session.number, session.frames))
        port.session = None


def set_guest(world, place, vlan):
    if not is_port(world, place):
        return [-1]
    if not within(vlan, 0, MOST_VLAN):
        return [-2]
    port = world.ports[place]
    port.guest = vlan
    if vlan == 0 and port.stand.kind == AS_GUEST:
        ask_anew(world, port)
    return [0]


def plug(world, place):
    if not is_port(world, place):
        return [-1]
    port = world.ports[place]
    if port.stand.kind != DOWN:
        return [-2]
    ask_anew(world, port)
    return [0]


def unplug(world, place):
    if not is_port(world, place):
        return [-1]
    port = world.ports[place]
    if port.stand.kind == DOWN:
        return [-2]
    end_session(world, port)
    port.stand = Stand(DOWN, 0)
    return [0]


def say_refusal(port, host):
    kind = port.stand.kind
    if kind == DOWN:
        return -3
    if kind == HELD:
        return -4
    if kind in (LOOKING, CHALLENGED, CHECKING):
        return -5
    if port.session is not None and port.session.host != host:
        return -6
    return 0


def say(world, place, host, who):
    if not is_port(world, place):
        return [-1]
    if not (is_host(host) and is_who(who)):
        return [-2]
    port = world.ports[place]
    refusal = say_refusal(port, host)
    if refusal != 0:
        return [refusal]
    stand = stand_waiting(world, LOOKING)
    stand.n = draw(world)
    stand.who = who
    stand.host = host
    port.stand = stand
    send(world, (HELLO, place, stand.n, who, host))
    return [0]


def check_reply(world, port, x):
    asked = port.stand
    stand = stand_waiting(world, CHECKING)
    stand.n = asked.n
    stand.who = asked.who
    stand.host = asked.host
    stand.challenge = asked.challenge
    stand.x = x
    stand.first = world.now
    port.stand = stand
    send(world, (ANSWER, stand.n, stand.challenge, x))


def reply(world, place, host, x):
    if not is_port(world, place):
        return [-1]
    if not (is_host(host) and within(x, 0, MOST_REPLY)):
        return [-2]
    port = world.ports[place]
    if port.stand.kind != CHALLENGED:
        return [-3]
    if port.stand.host != host:
        return [-4]
    check_reply(world, port, x)
    return [0]


def bye(world, place, host):
    if not is_port(world, place):
        return [-1]
    port = world.ports[place]
    if port.session is None or port.session.host != host:
        return [-2]
    end_session(world, port)
    ask_anew(world, port)
    return [0]


def pass_frames(session, host, k):
    if session.host != host:
        return [-5]
    session.frames += k
    return [0, session.vlan]


def frame(world, place, host, k):
    if not is_port(world, place):
        return [-1]
    if not (is_host(host) and within(k, 1, MOST_FRAMES)):
        return [-2]
    port = world.ports[place]
    if port.session is not None:
        return pass_frames(port.session, host, k)
    if port.stand.kind == DOWN:
        return [-3]
    if port.stand.kind == AS_GUEST:
        return [0, port.guest]
    return [-4]


def report(world):
    for port in world.ports:
        if port.session is not None:
            send(world, (COUNT, port.session.number, port.session.frames, 0))
    for record in world.records:
        send(world, (COUNT, record[0], record[1], 1))
    return [0]


def restart(world):
    # The sessions are forgotten, not ended: no record is made of them.
    for port in world.ports:
        port.session = None
        if port.stand.kind != DOWN:
            ask_anew(world, port)
    world.records = []
    return [0]


def switch_call(world, code, row):
    if code == GUEST:
        return set_guest(world, row[0], row[1])
    if code == PLUG:
        return plug(world, row[0])
    if code == UNPLUG:
        return unplug(world, row[0])
    if code == SAY:
        return say(world, row[0], row[1], row[2])
    if code == REPLY:
        return reply(world, row[0], row[1], row[2])
    if code == BYE:
        return bye(world, row[0], row[1])
    if code == FRAME:
        return frame(world, row[0], row[1], row[2])
    if code == REPORT:
        return report(world)
    return restart(world)
