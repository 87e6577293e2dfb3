"""Call 0, begin, and what holds before it."""

import unittest

from portadmit.world import DOWN, World
from tests.helper import (
    ACCOUNT, BAG, BAR, BEGIN, BYE, COUNTS, DELIVER, GUEST, LEAST, MEMBER, MOST, NORULES, PERSON, PLUG, PORT, REPLY,
    REPORT, RULE, SAY, SECRET, START, TICK, UNPERSON, UNPLUG, WHOIS, keyed_sum, outside, picture, run, stand,
)

MOSTS = (64, 1024, 1000000, 10, 1000000, 10, 1000000, 1000000, 256, 1024)

# One call of each number but begin's, with as many arguments as the interface tells.
OTHERS = (
    (PERSON, 7, 11, 100), (UNPERSON, 7), (SECRET, 7, 1), (MEMBER, 7, 1, 1),
    (RULE, 1, 0, 1, 0, 86399, 20, 600, 300), (NORULES,), (BAR, 7, 1), (GUEST, 0, 5),
    (PLUG, 0), (UNPLUG, 0), (SAY, 0, 100, 7), (REPLY, 0, 100, 1), (BYE, 0, 100),
    (14, 0, 100, 1), (15, 1), (16,), (17, 0), (18, 0), (19, 0), (20,), (21,), (22, 11, 2),
    (23, 0), (24,), (25, 3), (26, 7), (27,),
)


def begin_with(place, value):
    row = list(START)
    row[place + 1] = value
    return tuple(row)


class BeginTest(unittest.TestCase):
    def test_ordinary(self):
        self.assertEqual(run(START), [[0]])

    def test_least_and_greatest(self):
        self.assertEqual(run((BEGIN,) + (1,) * 10), [[0]])
        self.assertEqual(run((BEGIN,) + MOSTS), [[0]])

    def test_edges_of_each(self):
        for place, most in enumerate(MOSTS):
            for value in (1, 2, most - 1, most):
                with self.subTest(place=place, value=value):
                    self.assertEqual(run(begin_with(place, value)), [[0]])
            for value in outside(1, most) + (-1,):
                with self.subTest(place=place, value=value):
                    self.assertEqual(run(begin_with(place, value)), [[-1]])

    def test_all_wrong(self):
        for value in (0, LEAST, MOST):
            self.assertEqual(run((BEGIN,) + (value,) * 10), [[-1]])

    def test_ports_are_as_many_as_told(self):
        for ports in (1, 2, 63, 64):
            rows = run(begin_with(0, ports), (PLUG, 0), (PLUG, ports - 1), (PLUG, ports))
            self.assertEqual(rows[1], [0])
            self.assertEqual(rows[2], [0] if ports > 1 else [-2])
            self.assertEqual(rows[3], [-1])

    def test_what_a_new_world_holds(self):
        world = World(list(range(3, 13)))
        seen = picture(world)
        ports = seen.pop("ports")
        down = stand(DOWN)
        self.assertEqual(ports, [{"stand": down, "session": None, "guest": 0}] * 3)
        self.assertEqual(seen, {
            "bag_size": 4, "wait": 5, "tries": 6, "hold": 7, "most_wrong": 8, "lock": 9,
            "life": 10, "asks": 11, "most_records": 12, "now": 0, "book": 0, "lost": 0,
            "bag": [], "records": [], "persons": {}, "rules": [], "known": {}, "begun": [],
            "accounts": {},
        })


class BeforeBeginTest(unittest.TestCase):
    def test_each_call_by_itself(self):
        for call in OTHERS:
            with self.subTest(call=call):
                self.assertEqual(run(call), [[-20]])

    def test_all_calls_one_behind_another(self):
        self.assertEqual([call[0] for call in OTHERS], list(range(1, 28)))
        self.assertEqual(run(*OTHERS), [[-20]] * 27)
        self.assertEqual(run(*reversed(OTHERS)), [[-20]] * 27)

    def test_a_refused_begin_begins_nothing(self):
        rows = run(begin_with(0, 0), *OTHERS)
        self.assertEqual(rows, [[-1]] + [[-20]] * 27)

    def test_arguments_out_of_range(self):
        for call in OTHERS:
            for value in (LEAST, MOST):
                wrong = (call[0],) + (value,) * (len(call) - 1)
                self.assertEqual(run(wrong), [[-20]])

    def test_calls_before_begin_leave_no_trace(self):
        rows = run((PERSON, 7, 11, 100), (PLUG, 0), START, (SECRET, 7, 1), (UNPLUG, 0))
        self.assertEqual(rows, [[-20], [-20], [0], [-1], [-2]])

    def test_begin_works_after_a_refused_one(self):
        self.assertEqual(run(begin_with(9, 1025), START, (PLUG, 0)), [[-1], [0], [0]])


class BeginAgainTest(unittest.TestCase):
    full = (
        START, (PERSON, 7, 11, 100), (PLUG, 0), (PLUG, 1), (SAY, 1, 100, 7),
    )

    def test_refused_begin_leaves_what_there_is(self):
        for place, most in enumerate(MOSTS):
            for value in (0, most + 1):
                rows = run(
                    *self.full, begin_with(place, value), (PERSON, 7, 1, 102), (PERSON, 8, 1, 100),
                    (PLUG, 0), (SAY, 1, 100, 7), (PLUG, 2),
                )
                self.assertEqual(rows[5:], [[-1], [-2], [-3], [-2], [-5], [-1]])

    def test_begin_makes_all_new(self):
        rows = run(
            *self.full, begin_with(0, 3), (SECRET, 7, 1), (UNPLUG, 0), (SAY, 1, 100, 7),
            (PERSON, 8, 1, 100), (PLUG, 2), (PLUG, 3),
        )
        self.assertEqual(rows[5:], [[0], [-1], [-2], [-3], [0], [0], [-1]])

    def test_nothing_of_a_full_day_is_left(self):
        x = keyed_sum(11, 2)
        day = (
            START, (PERSON, 7, 11, 100), (MEMBER, 7, 1, 1), (RULE, 1, 0, 1, 0, 86399, 20, 600, 300), (GUEST, 0, 9),
            (PLUG, 0), (SAY, 0, 100, 7), (DELIVER, 0), (DELIVER, 0), (REPLY, 0, 100, x), (DELIVER, 0), (DELIVER, 0),
            (BYE, 0, 100), (REPORT,), (DELIVER, 0), (TICK, 1), (SAY, 0, 100, 7), (COUNTS,),
        )
        asked = ((COUNTS,), (BAG,), (PORT, 0), (ACCOUNT, 3), (WHOIS, 7), (PLUG, 0), (PORT, 0))
        rows = run(*day, START, *asked)
        self.assertEqual(rows[17], [0, 1, 4, 0, 0, 1, 1, 1, 1, 0])
        self.assertEqual(rows[18:24], [[0], [0] * 10, [0, 0], [0, 0, 0, 0], [-1], [-1]])
        self.assertEqual(rows[24:], [[0], [0, 1, 1, 5, 0, 0]])
        refused = run(*day, begin_with(0, 65), (COUNTS,), (ACCOUNT, 3), (PORT, 0))
        self.assertEqual(refused[18:], [[-1], rows[17], [0, 0, 1], [0, 2, 4, 7, 100, 1, 5, 0, 9]])

    def test_begin_makes_room_for_persons_and_rules(self):
        rule = (RULE, 1, 0, 1, 0, 86399, 20, 600, 300)
        persons = [(PERSON, k, 11, 100 + k) for k in range(256)]
        one_more = (PERSON, 256, 11, 356)
        rows = run(START, *persons, one_more, *[rule] * 65, START, one_more, rule)
        self.assertEqual(rows[257], [-4])
        self.assertEqual(rows[322], [-2])
        self.assertEqual(rows[323:], [[0], [0], [0]])


if __name__ == "__main__":
    unittest.main()
