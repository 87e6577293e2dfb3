"""What holds over the whole program: every list that the interface allows is answered to its end."""

import random
import unittest

from portadmit.ports import act, answers
from portadmit.world import World
from tests.helper import (
    AS_GUEST, ASKING, BAG, CHALLENGED, CHECKING, COUNTS, DELIVER, DOUBLE, DOWN, HELD, INSIDE, LEAST, LOOKING,
    MEMBER, MOST, PERSON, PLUG, REPLY, RULE, SAY, START, TICK, cut, flat, keyed_sum, run,
)

SIZES = {
    1: 3, 2: 1, 3: 2, 4: 3, 5: 8, 6: 0, 7: 2, 8: 2, 9: 1, 10: 1, 11: 3, 12: 3, 13: 2, 14: 3, 15: 1, 16: 0, 17: 1,
    18: 1, 19: 1, 20: 0, 21: 0, 22: 2, 23: 1, 24: 0, 25: 1, 26: 1, 27: 0,
}
HOSTS = {100: 7, 102: 8, 2**41: 9}
SECRETS = {7: 11, 8: 0, 9: 2**61 - 2}
RULES = (
    (1, 0, 0, 0, 86399, 20, 600, 60), (1, 1, 3, 80000, 70000, 21, 50, 10), (2, 0, 63, 0, 40000, 22, 1000000, 400),
)
VALUES = (LEAST, -1, 0, 1, 2, 3, 5, 7, 8, 63, 64, 100, 102, 4094, 4095, 86400, 1000001, 2**62, MOST)
# How often each call is drawn beside the others.
WEIGHTS = {DELIVER: 60, SAY: 18, REPLY: 25, TICK: 12, PLUG: 5, 14: 8, 16: 4, 18: 2, 19: 4, 23: 5, 27: 3}


class EveryCallTest(unittest.TestCase):
    def test_each_value_in_each_place(self):
        for value in VALUES:
            calls = [(code,) + (value,) * size for code, size in SIZES.items()]
            rows = run(START, *calls, *reversed(calls))
            self.assertEqual(len(rows), 1 + 2 * len(calls))

    def test_calls_that_take_nothing(self):
        for code in (6, 16, 20, 21):
            self.assertEqual(run(START, (code,)), [[0], [0]])

    def test_answers_of_more_than_one_number(self):
        rows = run(START, (22, 0, 0), (23, 0), (24,), (27,))
        self.assertEqual([len(row) for row in rows], [1, 2, 4, 2, 10])


class LongTest(unittest.TestCase):
    def test_a_bag_of_1024_asked_100_times(self):
        start = (0, 64, 1024, 1, 10, 1, 1, 1, 1, 256, 1024)
        plugs = [(PLUG, port) for port in range(64)]
        says = [(SAY, port, 100, 7) for port in range(64)]
        rows = run(start, *plugs, *says, *[(TICK, 1)] * 9, *[(DOUBLE, 0)] * 162, *[(BAG,)] * 100)
        self.assertEqual(len(rows), 400)
        self.assertEqual(len(rows[-1]), 2 + 5 * (64 * 10 + 162))
        self.assertEqual(rows[-1], rows[-100])

    def test_a_bag_of_1024_that_is_full(self):
        start = (0, 64, 1024, 1, 10, 1, 1, 1, 1, 256, 1024)
        plugs = [(PLUG, port) for port in range(64)]
        says = [(SAY, port, 100, 7) for port in range(64)]
        # Each port says ten times, is held, asks anew and says ten times more: 1280 messages.
        twice = says + [(TICK, 1)] * 11 + says + [(TICK, 1)] * 9
        rows = run(start, *plugs, *twice, (BAG,), (COUNTS,), (DOUBLE, 1023), (DOUBLE, 1024))
        self.assertEqual(rows[-4][:2], [0, 1024])
        self.assertEqual(rows[-3], [0, 20, 128, 256] + [0] * 6)
        self.assertEqual(rows[-2:], [[-2], [-1]])

    def test_forty_ports_of_one_host(self):
        start = (0, 64, 1024, 1000, 10, 1, 1, 1, 1000000, 256, 1024)
        calls = [start, (PERSON, 7, 11, 100), (MEMBER, 7, 1, 1), (RULE, 1, 0, 63, 0, 86399, 20, 600, 300)]
        calls += [(PLUG, port) for port in range(40)] + [(SAY, port, 100, 7) for port in range(40)]
        calls += [(DELIVER, 0)] * 80
        calls += [(REPLY, port, 100, keyed_sum(11, 41 + port)) for port in range(40)]
        calls += [(DELIVER, 0)] * 40 + [(BAG,), (COUNTS,)]
        rows = run(*calls)
        self.assertEqual(rows[-1], [0, 0, 120, 0, 0, 0, 1, 1, 40, 40])
        self.assertEqual(rows[-2][1], 40 + sum(range(40)))


class Walk:
    """A list of calls drawn from a seed, each by what there is when it's called."""

    def __init__(self, seed):
        self.random = random.Random(seed)
        self.calls = []
        self.told = []
        ten = [self.random.choice(row) for row in (
            (1, 2, 4), (1, 3, 9, 1024), (1, 5), (1, 2, 3), (1, 30), (1, 3), (1, 60), (20, 100, 1000000), (1, 4, 256),
            (1, 3, 8, 1024),
        )]
        self.world = World(ten)
        self.calls.append([0] + ten)
        self.told.append([0])
        for host, who in HOSTS.items():
            self.call(PERSON, who, SECRETS[who], host)
            self.call(MEMBER, who, self.random.choice((1, 2)), 1)
        for rule in RULES:
            self.call(RULE, *rule)
        for port in range(ten[0]):
            self.call(PLUG, port)

    def call(self, *call):
        self.calls.append(list(call))
        self.told.append(act(self.world, call[0], list(call[1:])))

    def step(self):
        codes = list(SIZES)
        code = self.random.choices(codes, [WEIGHTS.get(each, 1) for each in codes])[0]
        port = self.random.randrange(len(self.world.ports))
        host = self.random.choice(list(HOSTS))
        if code == BAG and sum(1 for call in self.calls if call[0] == BAG) == 100:
            return
        if code in (DELIVER, DOUBLE) and self.world.bag:
            self.call(code, self.random.randrange(len(self.world.bag)))
        elif code == TICK and self.random.random() < 0.98:
            self.call(TICK, self.random.choice((1, 1, 3, 5, 30, 61)))
        elif code == SAY:
            self.call(SAY, port, host, HOSTS[host])
        elif code == REPLY:
            self.reply(port)
        elif code in (PLUG, 13, 14, 23):
            self.call(*[code, port, host, 5][:1 + SIZES[code]])
        else:
            self.call(code, *[self.random.choice(VALUES) for k in range(SIZES[code])])

    def reply(self, port):
        for place, each in enumerate(self.world.ports):
            if each.stand.kind == CHALLENGED:
                port = place
        stand = self.world.ports[port].stand
        good = keyed_sum(SECRETS.get(stand.who, 0), stand.challenge)
        self.call(REPLY, port, stand.host, self.random.choice((good, good, good, 5)))


class WalkTest(unittest.TestCase):
    def check_ports(self, world):
        hosts = []
        for port in world.ports:
            kind = port.stand.kind
            if kind in (ASKING, LOOKING, CHALLENGED, CHECKING, HELD):
                self.assertGreater(port.stand.due, world.now)
            if kind in (DOWN, HELD, AS_GUEST):
                self.assertIsNone(port.session)
            if kind == INSIDE:
                self.assertGreater(port.session.again, world.now)
            if kind == AS_GUEST:
                self.assertGreater(port.guest, 0)
            if port.session is not None:
                self.assertGreater(port.session.until, world.now)
                hosts.append(port.session.host)
        self.assertEqual(len(hosts), len(set(hosts)))
        self.assertLessEqual(len(hosts) + len(world.records), world.most_records)

    def check_rest(self, world):
        self.assertLessEqual(len(world.bag), world.bag_size)
        self.assertLessEqual(len(world.known), world.asks)
        numbers = [begun.number for begun in world.begun]
        self.assertEqual(numbers, sorted(set(numbers)))
        for attempt in world.known.values():
            self.assertGreater(attempt.forgotten, world.now)
        for begun in world.begun:
            self.assertGreater(begun.over, world.now)

    def test_many(self):
        seen = set()
        for seed in range(120):
            walk = Walk(seed)
            while len(walk.calls) < 400:
                walk.step()
                self.check_ports(walk.world)
                self.check_rest(walk.world)
                seen.update((port.stand.kind, port.session is not None) for port in walk.world.ports)
            calls = flat(walk.calls)
            kept = list(calls)
            told = answers(calls)
            self.assertEqual(calls, kept)
            self.assertEqual(cut(told), walk.told)
            self.assertEqual({type(number) for number in told}, {int})
        alone = {(kind, False) for kind in range(7)}
        self.assertEqual(seen, alone | {(kind, True) for kind in (ASKING, LOOKING, CHALLENGED, CHECKING, INSIDE)})
