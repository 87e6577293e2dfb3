"""How calls and answers lie in their lists."""

import unittest

from portadmit.ports import answers
from tests.helper import (
    BAR, BYE, GUEST, MEMBER, NORULES, PERSON, PLUG, REPLY, RULE, SAY, SECRET, START, UNPERSON,
    UNPLUG, flat, run,
)

DAY = (
    (PLUG, 0), START, (PERSON, 7, 11, 100), (PERSON, 7, 12, 102), (MEMBER, 7, 1, 1), (MEMBER, 7, 64, 1),
    (RULE, 1, 0, 1, 0, 86399, 20, 600, 300), (RULE, 1, 0, 1, 0, 86400, 20, 600, 300), (SECRET, 7, 5),
    (SECRET, 8, 5), (GUEST, 0, 9), (GUEST, 0, 4095), (PLUG, 0), (PLUG, 0), (SAY, 0, 100, 7),
    (SAY, 0, 100, 7), (SAY, 1, 100, 7), (REPLY, 0, 100, 3), (BYE, 0, 100), (BAR, 7, 1), (BAR, 7, 2),
    (NORULES,), (UNPLUG, 0), (UNPLUG, 0), (UNPERSON, 7), (UNPERSON, 7),
)
TOLD = (
    -20, 0, 0, -2, 0, -2, 0, -1, 0, -1, 0, -2, 0, -2, 0, -5, -3, -3, -2, 0, -2, 0, 0, -2, 0, -1,
)


class LineTest(unittest.TestCase):
    def test_answers_come_in_order_with_their_sizes(self):
        self.assertEqual(answers(flat(DAY)), flat([(1, number) for number in TOLD]))

    def test_one_call(self):
        self.assertEqual(answers(list(START)), [1, 0])
        self.assertEqual(answers([NORULES]), [1, -20])

    def test_400_calls(self):
        rows = run(START, *[(PLUG, 0), (SAY, 0, 100, 7), (UNPLUG, 0)] * 133)
        self.assertEqual(rows, [[0]] * 400)

    def test_what_is_handed_in_stays(self):
        calls = flat(DAY)
        kept = list(calls)
        answers(calls)
        self.assertEqual(calls, kept)

    def test_nothing_is_kept_from_one_time_to_the_next(self):
        calls = flat(DAY)
        first = answers(calls)
        self.assertEqual(answers(calls), first)
        answers(list(START) + [PERSON, 7, 11, 100])
        self.assertEqual(answers([UNPERSON, 7]), [1, -20])
        self.assertEqual(answers(list(START) + [UNPERSON, 7]), [1, 0, 1, -1])

    def test_two_answers_are_two_lists(self):
        first = answers(flat(DAY))
        kept = list(first)
        answers(flat(DAY)).append(5)
        first.append(5)
        self.assertEqual(answers(flat(DAY)), kept)

    def test_answers_are_whole_numbers(self):
        told = answers(flat(DAY))
        self.assertIs(type(told), list)
        self.assertEqual({type(number) for number in told}, {int})

    def test_ports_do_not_touch_one_another(self):
        rows = run(
            START, (PLUG, 0), (SAY, 1, 100, 7), (PLUG, 1), (SAY, 0, 100, 7), (SAY, 1, 100, 7),
            (UNPLUG, 0), (SAY, 1, 100, 7),
        )
        self.assertEqual(rows, [[0], [0], [-3], [0], [0], [0], [0], [-5]])


if __name__ == "__main__":
    unittest.main()
