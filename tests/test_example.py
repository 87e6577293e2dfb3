"""The document's example, number by number, and a whole day in one list."""

import unittest

from portadmit.ports import answers
from tests.helper import (
    ACCOUNT, BAG, COUNTS, DELIVER, FRAME, KEYED, MEMBER, PERSON, PLUG, PORT, REPLY, REPORT, RULE, SAY, TICK, UNPLUG,
    cut, flat, keyed_sum, run,
)

# x(0) to x(4) of 11 and 2: 13, 182, 33139, 1098193338 and this one.
X = (1098193338 * 1098193338 + 8 + 11) % (2**61 - 1)

BEFORE = (
    (0, 2, 9, 5, 2, 30, 3, 60, 100, 4, 8), (1, 7, 11, 100), (4, 7, 1, 1), (5, 1, 0, 1, 0, 86399, 20, 600, 300),
    (9, 0), (11, 0, 100, 7),
)
EXAMPLE = BEFORE + (
    (24,), (17, 0), (24,), (17, 0), (23, 0), (22, 11, 2), (12, 0, 100, X), (24,), (17, 0), (24,), (17, 0), (23, 0),
    (14, 0, 100, 5), (14, 0, 101, 5), (14, 1, 100, 1),
)
TOLD = (
    (0,), (0,), (0,), (0,), (0,), (0,),
    (0, 1, 0, 0, 1, 7, 100), (0,), (0, 1, 3, 0, 1, 2), (0,), (0, 3, 1, 7, 100, 2, 5, 0, 0), (0, X), (0,),
    (0, 1, 1, 1, 2, X), (0,), (0, 1, 4, 0, 1, 3, 20, 600, 300), (0,), (0, 7, 1, 3, 7, 100, 20, 600, 300, 0, 0),
    (0, 20), (-5,), (-3,),
)


class ExampleTest(unittest.TestCase):
    def test_number_by_number(self):
        self.assertEqual(answers(flat(EXAMPLE)), flat((len(told),) + told for told in TOLD))

    def test_the_keyed_sum(self):
        self.assertEqual(X, keyed_sum(11, 2))

    def test_nothing_else_has_happened(self):
        rows = run(*EXAMPLE, (COUNTS,), (BAG,), (PORT, 1))
        self.assertEqual(rows[-3:], [[0, 0, 3, 0, 1, 0, 1, 1, 1, 1], [0, 0], [0, 0, 0, 0]])

    def test_what_is_handed_in_stays(self):
        calls = flat(EXAMPLE)
        kept = list(calls)
        answers(calls)
        self.assertEqual(calls, kept)

    def test_it_is_never_changed_for_a_while_either(self):
        class Kept(list):
            def refuse(self, *given):
                raise AssertionError("the list that is handed in is changed")

            append = extend = insert = pop = remove = clear = reverse = sort = refuse
            __setitem__ = __delitem__ = __iadd__ = __imul__ = refuse

        self.assertEqual(answers(Kept(flat(EXAMPLE))), answers(flat(EXAMPLE)))

    def test_twice_the_same(self):
        first = answers(flat(EXAMPLE))
        self.assertEqual(answers(flat(EXAMPLE)), first)
        self.assertEqual(answers(flat(EXAMPLE + EXAMPLE)), first + first)

    def test_whole_numbers_in_a_list(self):
        told = answers(flat(EXAMPLE))
        self.assertIs(type(told), list)
        self.assertEqual({type(number) for number in told}, {int})


class DayTest(unittest.TestCase):
    def test_from_plug_to_the_closed_account(self):
        calls = EXAMPLE + (
            (REPORT,), (DELIVER, 0), (ACCOUNT, 3), (TICK, 299), (FRAME, 0, 100, 2), (TICK, 1), (PORT, 0),
            (SAY, 0, 101, 7), (SAY, 0, 100, 7), (DELIVER, 0), (DELIVER, 0), (PORT, 0), (FRAME, 0, 100, 1),
            (REPLY, 0, 100, keyed_sum(11, 5)), (DELIVER, 0), (DELIVER, 0), (PORT, 0), (REPORT,), (BAG,),
            (DELIVER, 1), (COUNTS,), (DELIVER, 1), (COUNTS,), (ACCOUNT, 3), (UNPLUG, 0), (COUNTS,),
        )
        told = [
            [0], [0], [0, 5, 0], [0], [0, 20], [0], [0, 1, 1, 5, 1, 3, 7, 100, 20, 300, 0, 7, 0],
            [-6], [0], [0], [0], [0, 3, 4, 7, 100, 5, 5, 1, 3, 7, 100, 20, 300, 0, 7, 0], [0, 20],
            [0], [0], [0], [0, 7, 1, 6, 7, 100, 20, 600, 300, 0, 0], [0], [0, 2, 2, 6, 0, 0, 2, 3, 8, 1],
            [0], [0, 300, 6, 0, 1, 1, 1, 1, 1, 1], [0], [0, 300, 6, 0, 1, 0, 1, 1, 1, 1], [0, 8, 1], [0],
            [0, 300, 6, 0, 0, 1, 1, 1, 1, 1],
        ]
        self.assertEqual(run(*calls)[len(EXAMPLE):], told)

    def test_one_host_goes_to_another_port(self):
        come = ((PLUG, 1), (SAY, 1, 100, 7), (DELIVER, 0), (DELIVER, 0), (REPLY, 1, 100, keyed_sum(11, 5)))
        rows = run(*EXAMPLE, *come, (DELIVER, 0), (BAG,), (DELIVER, 0), (PORT, 0), (PORT, 1), (DELIVER, 0), (COUNTS,))
        self.assertEqual(rows[-6:], [
            [0, 2, 4, 1, 4, 6, 20, 600, 300, 6, 3], [0], [0, 1, 1, 5, 0, 0],
            [0, 7, 1, 6, 7, 100, 20, 600, 300, 0, 0], [0], [0, 0, 6, 0, 1, 1, 1, 1, 2, 2],
        ])

    def test_calls_by_their_names(self):
        names = (PERSON, MEMBER, RULE, PLUG, SAY, BAG, DELIVER, KEYED, REPLY, PORT, FRAME)
        self.assertEqual({call[0] for call in EXAMPLE}, {0, *names})
        self.assertEqual(len(cut(answers(flat(EXAMPLE)))), len(EXAMPLE))
