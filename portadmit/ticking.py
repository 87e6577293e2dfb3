"""The call tick: what time does to the ports and to the directory."""

from portadmit.admitting import come_to_nothing, deny, hold_port, put_out
from portadmit.switch import ask_anew
from portadmit.values import MOST_NOW, within
from portadmit.world import ANSWER, HELLO, Stand, send
from portadmit.world import AS_GUEST, ASKING, CHALLENGED, CHECKING, HELD, INSIDE, LOOKING


def end_asking(world, port):
    if port.session is not None:
        deny(world, port)
    elif port.guest == 0:
        hold_port(world, port)
    else:
        port.stand = Stand(AS_GUEST, 0)


def wait_once_more(world, stand):
    stand.left -= 1
    stand.due = world.now + world.wait


def send_once_more(world, place, stand):
    if stand.kind == LOOKING:
        send(world, (HELLO, place, stand.n, stand.who, stand.host))
    else:
        send(world, (ANSWER, stand.n, stand.challenge, stand.x))


def due_asking(world, port):
    if port.stand.left > 0:
        wait_once_more(world, port.stand)
    else:
        end_asking(world, port)


def due_sending(world, place, port):
    if port.stand.left > 0:
        wait_once_more(world, port.stand)
        send_once_more(world, place, port.stand)
    else:
        come_to_nothing(world, port)


def due_of(port):
    if port.stand.kind == INSIDE:
        return port.session.again
    return port.stand.due


def look_at(world, place, port):
    if port.session is not None and port.session.until <= world.now:
        put_out(world, port)
    if due_of(port) > world.now:
        return
    kind = port.stand.kind
    if kind == ASKING:
        due_asking(world, port)
    elif kind in (LOOKING, CHECKING):
        due_sending(world, place, port)
    elif kind == CHALLENGED:
        deny(world, port)
    elif kind in (HELD, INSIDE):
        ask_anew(world, port)


def forget(world):
    for n in list(world.known):
        if world.known[n].forgotten <= world.now:
            world.known.pop(n)
    world.begun = [begun for begun in world.begun if begun.over > world.now]


def tick(world, n):
    if not within(n, 1, MOST_NOW):
        return [-1]
    if world.now + n > MOST_NOW:
        return [-2]
    world.now += n
    for place, port in enumerate(world.ports):
        look_at(world, place, port)
    forget(world)
    return [0]
