"""A list of calls and the list of their answers."""

from portadmit.codes import BAR, BEGIN, BYE, SIZES
from portadmit.directory import directory_call
from portadmit.switch import switch_call
from portadmit.values import all_within
from portadmit.world import World

BEGIN_RANGES = (
    (1, 64), (1, 1024), (1, 1000000), (1, 10), (1, 1000000),
    (1, 10), (1, 1000000), (1, 1000000), (1, 256), (1, 1024),
)


def act(world, code, row):
    if code <= BAR:
        return directory_call(world, code, row)
    if code <= BYE:
        return switch_call(world, code, row)
    raise NotImplementedError(f"call {code} is not there yet")


def answers(calls):
    told = []
    world = None
    place = 0
    while place < len(calls):
        code = calls[place]
        behind = place + 1 + SIZES[code]
        row = calls[place + 1:behind]
        place = behind
        if code == BEGIN and all_within(row, BEGIN_RANGES):
            world = World(row)
            answer = [0]
        elif code == BEGIN:
            answer = [-1]
        elif world is None:
            answer = [-20]
        else:
            answer = act(world, code, row)
        told.append(len(answer))
        told.extend(answer)
    return told
