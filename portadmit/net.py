"""The calls on the bag: deliver, lose, double."""

from portadmit.admitting import switch_takes
from portadmit.codes import DELIVER, LOSE
from portadmit.deciding import directory_takes
from portadmit.values import within
from portadmit.world import COUNT


def hand_over(world, message):
    if message[0] <= COUNT:
        directory_takes(world, message)
    else:
        switch_takes(world, message)


def double(world, k):
    if len(world.bag) >= world.bag_size:
        return [-2]
    world.bag.append(world.bag[k])
    return [0]


def net_call(world, code, k):
    if not within(k, 0, len(world.bag) - 1):
        return [-1]
    if code == DELIVER:
        # Out of the bag first: what is sent for it may take its room.
        hand_over(world, world.bag.pop(k))
    elif code == LOSE:
        world.bag.pop(k)
    else:
        return double(world, k)
    return [0]
