"""A list of calls and the list of their answers."""

from portadmit.codes import BAR, BEGIN, DELIVER, DOUBLE, FRAME, LOSE, REBOOT, REPORT, RESTART, SIZES, TICK
from portadmit.directory import directory_call
from portadmit.net import net_call
from portadmit.switch import switch_call
from portadmit.telling import telling_call
from portadmit.ticking import tick
from portadmit.values import all_within
from portadmit.world import World

BEGIN_RANGES = (
    (1, 64), (1, 1024), (1, 1000000), (1, 10), (1, 1000000),
    (1, 10), (1, 1000000), (1, 1000000), (1, 256), (1, 1024),
)


def act(world, code, row):
    if code <= BAR or code == REBOOT:
        return directory_call(world, code, row)
    if code <= FRAME or code in (REPORT, RESTART):
        return switch_call(world, code, row)
    if code == TICK:
        return tick(world, row[0])
    if code in (DELIVER, LOSE, DOUBLE):
        return net_call(world, code, row[0])
    return telling_call(world, code, row)


def answers(calls):
    told = []
    world = None
    place = 0
    while place < len(calls):
        code = calls[place]
        behind = place + 1 + SIZES[code]
        row = calls[place + 1:behind]
        place = behind
        if code == BEGIN and all_within(row, BEGIN_RANGES):
            world = World(row)
            answer = [0]
        elif code == BEGIN:
            answer = [-1]
        elif world is None:
            answer = [-20]
        else:
            answer = act(world, code, row)
        told.append(len(answer))
        told.extend(answer)
    return told
