"""Calls 5 and 6: rule, norules."""

import unittest

from tests.helper import Bench, LEAST, MOST, NORULES, RULE, START, outside, picture, run

PLAIN = (1, 0, 1, 0, 86399, 20, 600, 300)
RANGES = (
    (0, 63), (0, 63), (0, 63), (0, 86399), (0, 86399), (1, 4094), (1, 1000000), (1, 1000000),
)


def rule_with(place, value):
    row = list(PLAIN)
    row[place] = value
    return (RULE,) + tuple(row)


class RuleTest(Bench):
    def test_ordinary(self):
        self.done(RULE, 1, 2, 3, 4, 5, 6, 7, 8)
        self.assertEqual(picture(self.world.rules), [{
            "group": 1, "low": 2, "high": 3, "since": 4, "till": 5, "vlan": 6, "length": 7, "again": 8,
        }])

    def test_put_behind_all_others(self):
        for vlan in (9, 3, 9, 5):
            self.done(*rule_with(5, vlan))
        self.assertEqual([rule.vlan for rule in self.world.rules], [9, 3, 9, 5])

    def test_edges_of_each(self):
        for place, ends in enumerate(RANGES):
            for value in (ends[0], ends[0] + 1, ends[1] - 1, ends[1]):
                self.done(*rule_with(place, value))
            for value in outside(*ends):
                self.refused(-1, *rule_with(place, value))

    def test_least_and_greatest(self):
        self.done(RULE, *[ends[0] for ends in RANGES])
        self.done(RULE, *[ends[1] for ends in RANGES])
        self.refused(-1, RULE, *[LEAST] * 8)
        self.refused(-1, RULE, *[MOST] * 8)

    def test_ends_the_other_way_round(self):
        self.done(RULE, 1, 63, 0, 86399, 0, 20, 600, 300)

    def test_ports_that_are_not_there(self):
        self.done(RULE, 1, 2, 63, 0, 86399, 20, 600, 300)

    def test_64_rules(self):
        for k in range(64):
            self.done(RULE, *PLAIN)
        self.refused(-2, RULE, *PLAIN)
        for place, ends in enumerate(RANGES):
            self.refused(-1, *rule_with(place, ends[1] + 1))


class NorulesTest(Bench):
    def test_all_are_gone(self):
        self.done(RULE, *PLAIN)
        self.done(RULE, *PLAIN)
        self.done(NORULES)
        self.assertEqual(self.world.rules, [])

    def test_where_there_is_none(self):
        before = picture(self.world)
        self.done(NORULES)
        self.assertEqual(picture(self.world), before)

    def test_room_again(self):
        rule = (RULE,) + PLAIN
        rows = run(START, *[rule] * 65, (NORULES,), *[rule] * 65)
        self.assertEqual(rows, [[0]] * 65 + [[-2]] + [[0]] * 65 + [[-2]])


if __name__ == "__main__":
    unittest.main()
