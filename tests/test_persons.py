"""Calls 1 to 4 and 7: person, unperson, secret, member, bar."""

import unittest

from portadmit.world import Begun, OVER
from tests.helper import (
    BAR, Bench, LEAST, MEMBER, MOST, PERSON, SECRET, START, TEN, UNPERSON, last, outside,
    picture, run,
)

MOST_WHO = 4294967295
MOST_SECRET = 2**61 - 2
MOST_HOST = 2**48 - 1
LAST_EVEN_HOST = 255 * 2**40 - 1
SEVEN = (PERSON, 7, 11, 100)


class PersonTest(Bench):
    def test_ordinary(self):
        self.done(*SEVEN)
        self.assertEqual(picture(self.world.persons), {7: {
            "secret": 11, "host": 100, "barred": 0, "groups": [0] * 64, "wrong": 0, "locked": 0,
        }})

    def test_id_edges(self):
        for who in (0, 1, MOST_WHO - 1, MOST_WHO):
            self.assertEqual(last((PERSON, who, 11, 100)), [0])
        for who in outside(0, MOST_WHO):
            self.refused(-1, PERSON, who, 11, 100)

    def test_secret_edges(self):
        for secret in (0, 1, MOST_SECRET - 1, MOST_SECRET):
            self.assertEqual(last((PERSON, 7, secret, 100)), [0])
        for secret in outside(0, MOST_SECRET):
            self.refused(-1, PERSON, 7, secret, 100)

    def test_host_edges(self):
        good = (1, 2, 2**40 - 1, 2 * 2**40, 3 * 2**40 - 1, 254 * 2**40, LAST_EVEN_HOST)
        for host in good:
            self.assertEqual(last((PERSON, 7, 11, host)), [0], host)
        odd = (2**40, 2 * 2**40 - 1, 3 * 2**40, 255 * 2**40, MOST_HOST)
        for host in odd + outside(1, MOST_HOST) + (-1, 2**48, 2**48 + 100, -2**41):
            self.refused(-1, PERSON, 7, 11, host)

    def test_id_is_there(self):
        self.done(*SEVEN)
        self.refused(-2, PERSON, 7, 12, 102)

    def test_host_is_there(self):
        self.done(*SEVEN)
        self.refused(-3, PERSON, 8, 12, 100)

    def test_the_same_secret_twice(self):
        self.done(*SEVEN)
        self.done(PERSON, 8, 11, 102)

    def test_256_persons(self):
        for k in range(256):
            self.done(PERSON, k, 11, 100 + k)
        self.refused(-4, PERSON, 256, 11, 99)
        self.done(UNPERSON, 100)
        self.done(PERSON, 256, 11, 99)
        self.refused(-4, PERSON, 257, 11, 98)

    def test_order_of_refusals(self):
        for k in range(256):
            self.done(PERSON, k, 11, 100 + k)
        self.refused(-1, PERSON, 0, -1, 100)
        self.refused(-1, PERSON, 0, 11, 2**40)
        self.refused(-1, PERSON, -1, 11, 100)
        self.refused(-2, PERSON, 0, 11, 100)
        self.refused(-2, PERSON, 0, 11, 99)
        self.refused(-3, PERSON, 256, 11, 100)

    def test_in_a_list(self):
        rows = run(START, SEVEN, SEVEN, (PERSON, 8, 11, 100), (PERSON, 8, 11, 2**40), (PERSON, 8, 11, 101))
        self.assertEqual(rows, [[0], [0], [-2], [-3], [-1], [0]])


class NoPersonTest(Bench):
    def test_no_person(self):
        self.done(*SEVEN)
        for who in (0, 6, 8, MOST_WHO, -1, MOST_WHO + 1, LEAST, MOST):
            self.refused(-1, UNPERSON, who)
            self.refused(-1, SECRET, who, 1)
            self.refused(-1, MEMBER, who, 1, 1)
            self.refused(-1, BAR, who, 1)

    def test_told_first(self):
        self.done(*SEVEN)
        self.refused(-1, SECRET, 8, -1)
        self.refused(-1, MEMBER, 8, 64, 1)
        self.refused(-1, MEMBER, 8, 1, 2)
        self.refused(-1, BAR, 8, 2)


class UnpersonTest(Bench):
    def test_a_begun_session_holds_what_it_is_given(self):
        self.assertEqual(picture(Begun(1, 2, 3, 4, 5)), {
            "number": 1, "who": 2, "host": 3, "port": 4, "over": 5,
        })

    def test_ordinary(self):
        self.done(*SEVEN)
        self.done(PERSON, 8, 12, 102)
        self.done(UNPERSON, 7)
        self.assertEqual(list(self.world.persons), [8])
        self.assertEqual(self.world.bag, [])
        self.refused(-1, UNPERSON, 7)

    def test_edges_of_the_id(self):
        for who in (0, MOST_WHO):
            self.done(PERSON, who, 11, 100)
            self.done(UNPERSON, who)

    def test_id_and_host_are_free_again(self):
        rows = run(START, SEVEN, (UNPERSON, 7), (PERSON, 8, 1, 100), (PERSON, 7, 1, 102))
        self.assertEqual(rows, [[0]] * 5)

    def test_a_person_comes_back_new(self):
        self.done(*SEVEN)
        before = picture(self.world)
        self.done(MEMBER, 7, 3, 1)
        self.done(BAR, 7, 1)
        self.done(UNPERSON, 7)
        self.done(*SEVEN)
        self.assertEqual(picture(self.world), before)

    def test_over_for_each_begun_session_in_order(self):
        self.done(*SEVEN)
        self.put_begun((3, 7), (4, 8), (6, 7), (9, 7))
        self.done(UNPERSON, 7)
        self.assertEqual(self.world.bag, [(OVER, 3), (OVER, 6), (OVER, 9)])
        self.assertEqual(OVER, 6)
        self.assertEqual([begun.number for begun in self.world.begun], [3, 4, 6, 9])

    def test_a_full_bag_loses(self):
        self.done(*SEVEN)
        self.put_begun(*[(k, 7) for k in range(1, 13)])
        self.done(UNPERSON, 7)
        self.assertEqual(self.world.bag, [(OVER, k) for k in range(1, TEN[1] + 1)])
        self.assertEqual(self.world.lost, 3)


class SecretTest(Bench):
    def setUp(self):
        super().setUp()
        self.done(*SEVEN)
        self.done(PERSON, 8, 12, 102)

    def test_edges(self):
        for secret in (0, 1, 11, MOST_SECRET - 1, MOST_SECRET):
            self.done(SECRET, 7, secret)
            self.assertEqual(self.world.persons[7].secret, secret)
            self.assertEqual(self.world.persons[8].secret, 12)
        for secret in outside(0, MOST_SECRET):
            self.refused(-2, SECRET, 7, secret)

    def test_nothing_else_changes(self):
        wanted = picture(self.world)
        wanted["persons"][7]["secret"] = 5
        self.done(SECRET, 7, 5)
        self.assertEqual(picture(self.world), wanted)


class MemberTest(Bench):
    def setUp(self):
        super().setUp()
        self.done(*SEVEN)
        self.done(PERSON, 8, 12, 102)

    def groups(self, who):
        flags = self.world.persons[who].groups
        return [group for group in range(len(flags)) if flags[group] == 1]

    def test_in_and_out(self):
        for group in (63, 0, 1, 62):
            self.done(MEMBER, 7, group, 1)
        self.assertEqual(self.groups(7), [0, 1, 62, 63])
        self.done(MEMBER, 7, 1, 0)
        self.assertEqual(self.groups(7), [0, 62, 63])
        self.assertEqual(self.groups(8), [])

    def test_twice_is_once(self):
        for x, wanted in ((1, [5]), (1, [5]), (0, []), (0, [])):
            self.done(MEMBER, 7, 5, x)
            self.assertEqual(self.groups(7), wanted)

    def test_no_group(self):
        for group in outside(0, 63):
            self.refused(-2, MEMBER, 7, group, 1)
            self.refused(-2, MEMBER, 7, group, 0)

    def test_neither_0_nor_1(self):
        for x in outside(0, 1):
            self.refused(-3, MEMBER, 7, 5, x)

    def test_told_first(self):
        self.refused(-2, MEMBER, 7, 64, 2)


class BarTest(Bench):
    def setUp(self):
        super().setUp()
        self.done(*SEVEN)
        self.done(PERSON, 8, 12, 102)

    def test_barred_and_not(self):
        for x in (1, 1, 0, 0, 1):
            self.done(BAR, 7, x)
            self.assertEqual(self.world.persons[7].barred, x)
            self.assertEqual(self.world.persons[8].barred, 0)
        self.assertEqual(self.world.bag, [])

    def test_neither_0_nor_1(self):
        self.put_begun((3, 7))
        for x in outside(0, 1):
            self.refused(-2, BAR, 7, x)

    def test_over_for_each_begun_session_in_order(self):
        self.put_begun((3, 7), (4, 8), (6, 7))
        self.done(BAR, 7, 1)
        self.assertEqual(self.world.bag, [(OVER, 3), (OVER, 6)])
        self.done(BAR, 7, 1)
        self.assertEqual(self.world.bag, [(OVER, 3), (OVER, 6)] * 2)

    def test_no_over_where_it_is_barred_no_more(self):
        self.put_begun((3, 7))
        self.done(BAR, 7, 0)
        self.assertEqual(self.world.bag, [])

    def test_begun_session_of_an_id_that_is_no_person(self):
        self.put_begun((3, 9))
        self.refused(-1, BAR, 9, 1)
        self.refused(-1, UNPERSON, 9)


if __name__ == "__main__":
    unittest.main()
