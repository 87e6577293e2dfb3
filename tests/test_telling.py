"""Calls 22, 23 and 25 to 27: keyed, port, account, whois, counts."""

import unittest

from tests.helper import (
    ACCOUNT, AS_GUEST, ASKING, BAR, BYE, CHALLENGED, CHECKING, COUNT, COUNTS, DELIVER, DOWN, FRAME, GUEST, HELD,
    INSIDE, KEYED, LEAST, LOOKING, MEMBER, MOST, NORULES, PERSON, PLUG, PORT, REPLY, REPORT, RULE, SAY, SECRET,
    START, TICK, UNPERSON, UNPLUG, WHOIS, Hall, keyed_sum, last, outside, picture, run,
)

MODULUS = 2**61 - 1


class KeyedTest(unittest.TestCase):
    def test_by_hand(self):
        # 11 + 2 = 13; 13 * 13 + 2 + 11 = 182; 182 * 182 + 4 + 11 = 33139; 33139 * 33139 + 6 + 11 = 1098193338
        wanted = (1098193338 * 1098193338 + 8 + 11) % MODULUS
        self.assertEqual(last((KEYED, 11, 2)), [0, wanted])
        self.assertEqual(last((KEYED, 0, 0)), [0, 0])
        # 1; 1 + 1; 4 + 1; 25 + 1; 676 + 1
        self.assertEqual(last((KEYED, 1, 0)), [0, 677])
        # 1; 1 + 1; 4 + 2; 36 + 3; 1521 + 4
        self.assertEqual(last((KEYED, 0, 1)), [0, 1525])
        # -1: 1 - 1; 0 - 1; 1 - 1; 0 - 1
        self.assertEqual(last((KEYED, MODULUS - 1, 0)), [0, MODULUS - 1])
        # As 0 and 0: the challenge is the modulus itself, and twice.
        self.assertEqual(last((KEYED, 0, MODULUS)), [0, 0])
        self.assertEqual(last((KEYED, 0, 2 * MODULUS)), [0, 0])

    def test_edges(self):
        for secret in (0, 1, 12345678901234567, MODULUS - 2, MODULUS - 1):
            for challenge in (0, 1, 2, MODULUS - 1, MODULUS, MODULUS + 1, 2**62 - 1, 2**62):
                self.assertEqual(last((KEYED, secret, challenge)), [0, keyed_sum(secret, challenge)])

    def test_out_of_range(self):
        for secret in outside(0, MODULUS - 1):
            self.assertEqual(last((KEYED, secret, 2)), [-1])
        for challenge in outside(0, 2**62):
            self.assertEqual(last((KEYED, 11, challenge)), [-1])
        self.assertEqual(last((KEYED, -1, -1)), [-1])


class PortTest(Hall):
    session = (1, 3, 7, 100, 20)

    def test_no_port(self):
        for port in (3, -1, LEAST, MOST):
            self.refused(-1, PORT, port)

    def test_down(self):
        for port in (0, 1, 2):
            self.assert_port(port, DOWN, 0, 0)
        self.done(GUEST, 1, 4094)
        self.assert_port(1, DOWN, 0, 4094)

    def test_unplugged_with_a_guest_vlan(self):
        self.stand_with(AS_GUEST)
        self.assert_port(0, AS_GUEST, 0, 9)
        self.done(UNPLUG, 0)
        self.assert_port(0, DOWN, 0, 9)

    def test_each_way_alone(self):
        told = {
            ASKING: (1, 4), LOOKING: (1, 7, 100, 1, 4), CHALLENGED: (1, 7, 100, 2, 4),
            CHECKING: (1, 7, 100, 2, keyed_sum(11, 2), 1, 4), HELD: (29,),
        }
        for kind, numbers in told.items():
            self.start()
            self.stand_with(kind)
            self.done(TICK, 1)
            self.done(GUEST, 0, 13)
            self.assert_port(0, kind, *numbers, 0, 13)

    def test_each_way_with_a_session(self):
        told = {
            ASKING: (1, 4), LOOKING: (4, 7, 100, 1, 4), CHALLENGED: (4, 7, 100, 5, 4),
            CHECKING: (4, 7, 100, 5, keyed_sum(11, 5), 1, 4), INSIDE: (),
        }
        for kind, numbers in told.items():
            self.start()
            self.stand_with(kind, session=True)
            self.done(TICK, 1)
            self.ask(FRAME, 0, 100, 6)
            rests = (299, 0) if kind == ASKING else (599, 299)
            self.assert_port(0, kind, *numbers, *self.session, *rests, 6, 0)

    def test_asking_changes_nothing(self):
        self.admit(0)
        before = picture(self.world)
        for port in (0, 1):
            self.ask(PORT, port)
        self.assert_unchanged(before)

    def test_rests_are_0_at_the_least(self):
        self.admit(0)
        self.done(TICK, 301)
        self.assertEqual(self.told(PORT, 0)[-4:-1], [299, 0, 0])

    def test_in_a_list(self):
        rows = run(START, (PORT, 0), (PORT, 2), (PORT, -1), (PLUG, 1), (PORT, 1), (PORT, 0))
        self.assertEqual(rows, [[0], [0, 0, 0, 0], [-1], [-1], [0], [0, 1, 1, 5, 0, 0], [0, 0, 0, 0]])


class AccountTest(Hall):
    def test_none(self):
        number = self.admit(0)
        for other in (number, 0, -1, LEAST, MOST):
            self.refused(-1, ACCOUNT, other)

    def test_open_and_closed(self):
        number = self.admit(0)
        self.ask(FRAME, 0, 100, 6)
        self.done(REPORT)
        self.deliver_all()
        self.assertEqual(self.ask(ACCOUNT, number), [0, 6, 0])
        self.done(BYE, 0, 100)
        self.assertEqual(self.ask(ACCOUNT, number), [0, 6, 0])
        self.done(REPORT)
        self.deliver_all()
        self.assertEqual(self.ask(ACCOUNT, number), [0, 6, 1])
        self.refused(-1, ACCOUNT, number + 1)

    def test_each_by_its_number(self):
        for port, host, k in ((0, 100, 6), (1, 102, 8)):
            number = self.admit(port, host)
            self.ask(FRAME, port, host, k)
        self.done(REPORT)
        self.deliver_all()
        self.assertEqual(self.ask(ACCOUNT, 3), [0, 6, 0])
        self.assertEqual(self.ask(ACCOUNT, number), [0, 8, 0])


class WhoisTest(Hall):
    def test_no_person(self):
        for who in (6, 9, 0, -1, 100, LEAST, MOST):
            self.refused(-1, WHOIS, who)
        self.done(UNPERSON, 7)
        self.refused(-1, WHOIS, 7)

    def test_a_new_person(self):
        self.assertEqual(last((PERSON, 0, 1, 2**41), (WHOIS, 0)), [0, 2**41, 0, 0, 0, 0])
        self.assertEqual(last((PERSON, 4294967295, 1, 1), (WHOIS, 4294967295)), [0, 1, 0, 0, 0, 0])

    def test_groups_rising(self):
        for group in (63, 0, 40):
            self.done(MEMBER, 7, group, 1)
        self.assertEqual(self.ask(WHOIS, 7), [0, 100, 0, 0, 0, 4, 0, 1, 40, 63])
        self.done(MEMBER, 7, 1, 0)
        self.assertEqual(self.ask(WHOIS, 7), [0, 100, 0, 0, 0, 3, 0, 40, 63])
        self.assertEqual(self.ask(WHOIS, 8), [0, 102, 0, 0, 0, 1, 1])

    def test_all_groups(self):
        for group in range(63, -1, -1):
            self.done(MEMBER, 7, group, 1)
        self.assertEqual(self.ask(WHOIS, 7), [0, 100, 0, 0, 0, 64, *range(64)])

    def test_barred(self):
        self.done(BAR, 7, 1)
        self.assertEqual(self.ask(WHOIS, 7), [0, 100, 1, 0, 0, 1, 1])
        self.done(BAR, 7, 0)
        self.assertEqual(self.ask(WHOIS, 7), [0, 100, 0, 0, 0, 1, 1])

    def test_the_secret_is_not_told(self):
        before = self.ask(WHOIS, 7)
        self.done(SECRET, 7, 99)
        self.assertEqual(self.ask(WHOIS, 7), before)

    def test_wrong_answers_and_the_lock(self):
        for seen in ((1, 0), (2, 0), (0, 60)):
            self.challenge(0)
            self.done(REPLY, 0, 100, 5)
            self.deliver_all()
            self.assertEqual(self.ask(WHOIS, 7), [0, 100, 0, *seen, 1, 1])
            rest = self.told(PORT, 0)[1]
            self.assertEqual(rest, 30)
            if seen != (0, 60):
                self.done(TICK, 30)
        self.done(TICK, 59)
        self.assertEqual(self.ask(WHOIS, 7), [0, 100, 0, 0, 1, 1, 1])
        self.done(TICK, 1)
        self.assertEqual(self.ask(WHOIS, 7), [0, 100, 0, 0, 0, 1, 1])
        self.done(TICK, 1)
        self.assertEqual(self.ask(WHOIS, 7), [0, 100, 0, 0, 0, 1, 1])


class CountsTest(Hall):
    def test_at_the_beginning(self):
        self.assertEqual(run(START, (COUNTS,)), [[0], [0] * 10])

    def test_each_number_has_its_place(self):
        self.start(bag=4)
        self.done(RULE, *self.RULED)
        self.done(RULE, *self.RULED)
        self.done(PERSON, 9, 1, 104)
        self.assertEqual(self.ask(COUNTS), [0, 1000, 0, 0, 0, 0, 3, 3, 0, 0])
        self.admit(0)
        self.assertEqual(self.ask(COUNTS), [0, 1000, 3, 0, 1, 0, 3, 3, 1, 1])
        self.admit(1, 102)
        self.done(BYE, 0, 100)
        self.assertEqual(self.ask(COUNTS), [0, 1000, 6, 0, 1, 1, 3, 3, 2, 2])
        self.done(DELIVER, self.say(2))
        self.assertEqual(self.ask(COUNTS), [0, 1000, 8, 0, 1, 1, 3, 3, 3, 2])
        self.fill_bag()
        self.done(REPORT)
        self.assertEqual(self.ask(COUNTS), [0, 1000, 8, 2, 1, 1, 3, 3, 3, 2])
        self.done(NORULES)
        self.done(UNPERSON, 9)
        self.done(TICK, 5)
        self.assertEqual(self.ask(COUNTS), [0, 1005, 8, 3, 1, 1, 2, 0, 3, 2])

    def test_no_number_is_drawn_twice(self):
        drawn = [self.challenge(0)]
        drawn.append(self.challenge(1, 102))
        self.done(UNPLUG, 0)
        drawn.append((self.admit(0),))
        self.assertEqual([number for row in drawn for number in row], [1, 2, 3, 4, 7])
        self.assert_counts(book=7)

    def test_refused_calls_draw_nothing(self):
        self.refused(-3, SAY, 0, 100, 7)
        self.assert_counts(book=0)

    def test_asking_changes_nothing(self):
        self.admit(0)
        before = picture(self.world)
        self.ask(COUNTS)
        self.ask(WHOIS, 7)
        self.ask(ACCOUNT, 3)
        self.ask(KEYED, 11, 2)
        self.assert_unchanged(before)
        self.assertNotIn(COUNT, [row[0] for row in self.bag()])
