"""What the switch does with challenge, yes, no, over and got."""

from tests.helper import (
    AS_GUEST, ASKING, BAR, BYE, CHALLENGE, CHALLENGED, CHECKING, DELIVER, DOUBLE, DOWN, FRAME, GOT, GUEST, HELD,
    INSIDE, LOOKING, NO, OVER, PORT, REPORT, TICK, UNPLUG, YES, Hall, keyed_sum, picture,
)

# At 1000, as in Hall: wait 5, tries 2, hold 30, records 8; the rule's VLAN 20, length 600, again 300.
ALONE = (DOWN, ASKING, LOOKING, CHALLENGED, CHECKING, HELD, AS_GUEST)
WITH_SESSION = (ASKING, LOOKING, CHALLENGED, CHECKING, INSIDE)
WAYS = [(kind, False) for kind in ALONE] + [(kind, True) for kind in WITH_SESSION]


class Switch(Hall):
    def hand(self, *message):
        self.empty_bag()
        self.world.bag.append(message)
        self.done(DELIVER, 0)
        self.assert_bag()

    def nothing(self, *message):
        self.empty_bag()
        before = picture(self.world)
        self.hand(*message)
        self.assert_unchanged(before)

    def number_of(self, port):
        return self.world.ports[port].stand.n

    def records(self):
        """What report tells of the records: number and frames of each."""
        self.empty_bag()
        self.done(REPORT)
        rows = [(row[1], row[2]) for row in self.bag() if row[3] == 1]
        self.empty_bag()
        return rows


class ChallengeTest(Switch):
    def test_looking(self):
        self.say(0)
        self.done(TICK, 3)
        self.hand(CHALLENGE, 0, 1, 77)
        self.assert_port(0, CHALLENGED, 1, 7, 100, 77, 5, 0, 0)

    def test_looking_with_a_session(self):
        self.admit(0)
        self.say(0)
        self.hand(CHALLENGE, 0, 4, 77)
        self.assert_port(0, CHALLENGED, 4, 7, 100, 77, 5, 1, 3, 7, 100, 20, 600, 300, 0, 0)

    def test_another_n_or_port(self):
        self.say(0)
        for port, n in ((0, 2), (0, 0), (1, 1), (2, 1)):
            self.nothing(CHALLENGE, port, n, 77)

    def test_not_looking(self):
        for kind, session in WAYS:
            if kind != LOOKING:
                self.start()
                self.stand_with(kind, session=session)
                self.nothing(CHALLENGE, 0, self.number_of(0), 77)
                self.nothing(CHALLENGE, 0, 0, 77)

    def test_twice(self):
        self.say(0)
        self.hand(CHALLENGE, 0, 1, 77)
        self.nothing(CHALLENGE, 0, 1, 78)


class YesTest(Switch):
    def yes(self, port, number=90, vlan=21, length=600, again=300):
        self.hand(YES, port, self.number_of(port), number, vlan, length, again)

    def test_checking(self):
        self.reply(0)
        self.done(GUEST, 0, 9)
        self.done(TICK, 4)
        self.yes(0)
        self.assert_port(0, INSIDE, 1, 90, 7, 100, 21, 596, 300, 0, 9)
        self.assert_counts(sessions=1, records=0)

    def test_another_n_or_port(self):
        self.reply(0)
        for port, n in ((0, 2), (0, 3), (0, 0), (1, 1), (2, 1)):
            self.nothing(YES, port, n, 90, 21, 600, 300)

    def test_not_checking(self):
        for kind, session in WAYS:
            if kind != CHECKING:
                self.start()
                self.stand_with(kind, session=session)
                self.nothing(YES, 0, self.number_of(0), 90, 21, 600, 300)
                self.nothing(YES, 0, 0, 90, 21, 600, 300)

    def test_twice(self):
        place = self.decide(0)
        self.done(DOUBLE, place)
        self.done(DELIVER, 0)
        before = self.ask(PORT, 0)
        self.assertEqual(before[1], INSIDE)
        self.done(DELIVER, 0)
        self.assertEqual(self.ask(PORT, 0), before)

    def test_just_in_time_and_too_late(self):
        for length, kind in ((4, INSIDE), (3, HELD), (2, HELD)):
            self.start()
            self.reply(0)
            self.done(TICK, 3)
            self.yes(0, length=length)
            self.assertEqual(self.told(PORT, 0)[0], kind)
            self.assert_counts(sessions=1 if kind == INSIDE else 0, records=0)
        self.assert_port(0, HELD, 30, 0, 0)

    def test_counted_from_when_the_answer_was_first_sent(self):
        self.reply(0)
        self.done(TICK, 5)
        self.assert_port(0, CHECKING, 1, 7, 100, 2, keyed_sum(11, 2), 0, 5, 0, 0)
        self.done(TICK, 1)
        self.yes(0, length=100)
        self.assert_port(0, INSIDE, 1, 90, 7, 100, 21, 94, 300, 0, 0)

    def test_too_late_with_a_session(self):
        self.admit(0)
        self.reply(0)
        self.done(TICK, 3)
        self.yes(0, length=3)
        self.assert_port(0, INSIDE, 1, 3, 7, 100, 20, 597, 30, 0, 0)
        self.assert_counts(sessions=1, records=0)
        self.done(TICK, 29)
        self.assertEqual(self.told(PORT, 0)[0], INSIDE)
        self.done(TICK, 1)
        self.assertEqual(self.told(PORT, 0)[0], ASKING)

    def test_its_own_session_ends(self):
        self.admit(0)
        self.ask(FRAME, 0, 100, 8)
        self.reply(0)
        self.yes(0)
        self.assert_port(0, INSIDE, 1, 90, 7, 100, 21, 600, 300, 0, 0)
        self.assertEqual(self.records(), [(3, 8)])
        self.assert_counts(sessions=1, records=1)

    def test_as_many_sessions_and_records_as_may_be(self):
        for most, kind in ((3, HELD), (4, INSIDE)):
            self.start(records=most)
            self.admit(0)
            self.done(BYE, 0, 100)
            self.admit(0)
            self.admit(1, 102)
            self.assert_counts(sessions=2, records=1)
            self.empty_bag()
            self.reply(2)
            self.yes(2)
            self.assertEqual(self.told(PORT, 2)[0], kind)
            if kind == HELD:
                self.assert_counts(sessions=2, records=1)
                self.assert_port(2, HELD, 30, 0, 0)
            else:
                self.assert_counts(sessions=2, records=2)

    def test_its_own_session_counts_too(self):
        self.start(records=1)
        self.admit(0)
        self.reply(0)
        self.yes(0)
        self.assert_port(0, INSIDE, 1, 3, 7, 100, 20, 600, 30, 0, 0)
        self.assert_counts(sessions=1, records=0)

    def test_records_alone_count(self):
        self.start(records=1)
        number = self.admit(0)
        self.done(BYE, 0, 100)
        self.reply(0)
        self.yes(0)
        self.assert_port(0, HELD, 30, 0, 0)
        self.hand(GOT, number, 0)
        self.done(TICK, 30)
        self.reply(0)
        self.yes(0)
        self.assertEqual(self.told(PORT, 0)[0], INSIDE)

    def test_a_session_of_the_same_host_at_another_port(self):
        self.admit(1)
        self.ask(FRAME, 1, 100, 4)
        self.admit(2, 102)
        self.reply(0)
        self.done(TICK, 2)
        self.yes(0)
        self.assert_port(1, ASKING, 1, 5, 0, 0)
        self.assertEqual(self.told(PORT, 2)[:5], [INSIDE, 1, 6, 8, 102])
        self.assert_port(0, INSIDE, 1, 90, 7, 100, 21, 598, 300, 0, 0)
        self.assertEqual(self.records(), [(3, 4)])

    def test_at_another_port_that_is_not_inside(self):
        for kind in (ASKING, LOOKING, CHALLENGED, CHECKING):
            self.start()
            self.stand_with(kind, port=1, session=True)
            before = self.told(PORT, 1)
            self.reply(0)
            self.yes(0)
            self.assert_port(1, *before[:-9], 0, 0)
            self.assertEqual(self.records(), [(3, 0)])

    def test_at_ports_on_both_sides_in_order(self):
        # Two sessions of one host come about only here: by hand, and the own one ends last.
        self.start(ports=4)
        for port, number in ((0, 83), (1, 82), (3, 81)):
            self.stand_with(ASKING, port)
            self.put_session(port, number, 100, frames=port)
        self.reply(1)
        self.yes(1)
        self.assertEqual(self.records(), [(83, 0), (81, 3), (82, 1)])
        self.assert_counts(sessions=1)

    def test_too_late_leaves_the_others(self):
        self.admit(1)
        self.reply(0)
        self.done(TICK, 3)
        self.yes(0, length=3)
        self.assert_counts(sessions=1, records=0)
        self.assertEqual(self.told(PORT, 1)[0], INSIDE)

    def test_least_and_greatest(self):
        self.reply(0)
        self.yes(0, vlan=4094, length=1, again=1000000)
        self.assert_port(0, INSIDE, 1, 90, 7, 100, 4094, 1, 1000000, 0, 0)


class NoTest(Switch):
    def test_looking_and_checking(self):
        for kind in (LOOKING, CHECKING):
            self.start()
            self.stand_with(kind)
            self.done(TICK, 2)
            self.hand(NO, 0, 1)
            self.assert_port(0, HELD, 30, 0, 0)
            self.assert_counts(records=0)

    def test_its_session_ends(self):
        for kind in (LOOKING, CHECKING):
            self.start()
            self.stand_with(kind, session=True)
            self.ask(FRAME, 0, 100, 6)
            self.hand(NO, 0, 4)
            self.assert_port(0, HELD, 30, 0, 0)
            self.assertEqual(self.records(), [(3, 6)])

    def test_with_a_guest_vlan(self):
        self.done(GUEST, 0, 9)
        self.say(0)
        self.hand(NO, 0, 1)
        self.assert_port(0, HELD, 30, 0, 9)

    def test_another_n_or_port(self):
        for kind in (LOOKING, CHECKING):
            self.start()
            self.stand_with(kind)
            for port, n in ((0, 2), (0, 0), (1, 1), (2, 1)):
                self.nothing(NO, port, n)

    def test_else(self):
        for kind, session in WAYS:
            if kind not in (LOOKING, CHECKING):
                self.start()
                self.stand_with(kind, session=session)
                self.nothing(NO, 0, self.number_of(0))
                self.nothing(NO, 0, 0)
                self.nothing(NO, 0, 1)


class OverTest(Switch):
    def test_inside(self):
        number = self.admit(0)
        self.admit(1, 102)
        self.ask(FRAME, 0, 100, 6)
        self.done(TICK, 2)
        self.hand(OVER, number)
        self.assert_port(0, ASKING, 1, 5, 0, 0)
        self.assertEqual(self.told(PORT, 1)[0], INSIDE)
        self.assertEqual(self.records(), [(number, 6)])

    def test_not_inside(self):
        for kind in (ASKING, LOOKING, CHALLENGED, CHECKING):
            self.start()
            self.stand_with(kind, session=True)
            before = self.told(PORT, 0)
            self.assertEqual(before[-9:-7], [1, 3])
            self.done(TICK, 2)
            self.hand(OVER, 3)
            before[-10] -= 2
            self.assert_port(0, *before[:-9], 0, 0)
            self.assertEqual(self.records(), [(3, 0)])

    def test_no_port_has_it(self):
        number = self.admit(0)
        for other in (number - 1, number + 1, 0, 1):
            self.nothing(OVER, other)
        self.done(UNPLUG, 0)
        self.nothing(OVER, number)

    def test_a_person_is_barred(self):
        number = self.admit(0)
        self.done(BAR, 7, 1)
        self.assert_bag((OVER, number))
        self.assert_counts(sessions=1)
        self.done(DELIVER, 0)
        self.assert_counts(sessions=0, records=1, begun=1)


class GotTest(Switch):
    def setUp(self):
        super().setUp()
        self.numbers = []
        for frames in (4, 5, 4):
            self.numbers.append(self.admit(0))
            self.ask(FRAME, 0, 100, frames)
            self.done(BYE, 0, 100)

    def test_that_record_is_taken_away(self):
        first, second, third = self.numbers
        self.hand(GOT, second, 5)
        self.assertEqual(self.records(), [(first, 4), (third, 4)])
        self.hand(GOT, third, 4)
        self.assertEqual(self.records(), [(first, 4)])
        self.hand(GOT, first, 4)
        self.assertEqual(self.records(), [])
        self.nothing(GOT, first, 4)

    def test_other_frames_or_another_number(self):
        first, second, third = self.numbers
        for number, frames in ((first, 5), (first, 3), (first, 0), (second, 4), (third + 1, 4), (4, first)):
            self.nothing(GOT, number, frames)

    def test_a_session_stays(self):
        number = self.admit(0)
        self.nothing(GOT, number, 0)
