"""Call 15: tick."""

from tests.helper import (
    ANSWER, AS_GUEST, ASKING, CHALLENGED, CHECKING, COUNT, COUNTS, DELIVER, DOWN, FRAME, GUEST, HELD, HELLO, INSIDE,
    LEAST, LOOKING, MEMBER, MOST, NORULES, PLUG, PORT, REPORT, RULE, START, TICK, Hall, keyed_sum, outside,
    picture, run,
)

# At 1000, as in Hall: wait 5, tries 2, hold 30, life 100; the rule's VLAN 20, length 600, again 300.


class RangeTest(Hall):
    def test_edges(self):
        for n in (1, 2, 86400, 2**61):
            before = self.told(COUNTS)[0]
            self.done(TICK, n)
            self.assert_counts(now=before + n)
        for n in outside(1, 2**62):
            self.refused(-1, TICK, n)

    def test_to_the_end_of_time(self):
        self.refused(-2, TICK, 2**62)
        self.refused(-2, TICK, 2**62 - 999)
        self.done(TICK, 2**62 - 1000)
        self.assert_counts(now=2**62)
        self.refused(-2, TICK, 1)
        self.refused(-2, TICK, 2**62)
        self.refused(-1, TICK, 0)
        self.refused(-1, TICK, 2**62 + 1)

    def test_in_a_list(self):
        rows = run(
            START, (TICK, 0), (TICK, LEAST), (TICK, MOST), (TICK, 2**62 + 1), (TICK, 2**62), (TICK, 1), (COUNTS,),
            (TICK, 2**62 + 1),
        )
        self.assertEqual(rows[1:], [[-1], [-1], [-1], [-1], [0], [-2], [0, 2**62] + [0] * 8, [-1]])

    def test_calls_at_the_end_of_time(self):
        self.done(TICK, 2**62 - 1000)
        self.admit(0)
        self.assertEqual(self.told(PORT, 0)[-4:-1], [600, 300, 0])
        self.done(PLUG, 1)
        self.assert_port(1, ASKING, 1, 5, 0, 0)


class NothingDueTest(Hall):
    def test_down(self):
        self.done(TICK, 1000000)
        self.assert_port(0, DOWN, 0, 0)
        self.assert_bag()

    def test_guest(self):
        self.stand_with(AS_GUEST)
        self.done(TICK, 1000000)
        self.assert_port(0, AS_GUEST, 0, 9)
        self.assert_bag()

    def test_one_before_due(self):
        rests = {ASKING: 4, LOOKING: 4, CHALLENGED: 4, CHECKING: 4, HELD: 29, INSIDE: 299}
        ways = [(kind, False) for kind in rests if kind != INSIDE] + [(kind, True) for kind in rests if kind != HELD]
        for kind, session in ways:
            self.start(life=1000000)
            self.stand_with(kind, session=session)
            before = picture(self.world)
            self.done(TICK, rests[kind])
            before["now"] += rests[kind]
            self.assert_unchanged(before)


class AskingTest(Hall):
    def test_asks_yet(self):
        self.start(tries=3)
        self.done(PLUG, 0)
        self.assert_port(0, ASKING, 2, 5, 0, 0)
        self.done(TICK, 5)
        self.assert_port(0, ASKING, 1, 5, 0, 0)
        self.done(TICK, 7)
        self.assert_port(0, ASKING, 0, 5, 0, 0)
        self.assert_bag()

    def test_no_more_and_no_guest_vlan(self):
        self.start(tries=1)
        self.done(PLUG, 0)
        self.done(TICK, 5)
        self.assert_port(0, HELD, 30, 0, 0)

    def test_no_more_and_a_guest_vlan(self):
        self.start(tries=1)
        self.done(GUEST, 0, 9)
        self.done(PLUG, 0)
        self.done(TICK, 5)
        self.assert_port(0, AS_GUEST, 0, 9)

    def test_with_a_session(self):
        for guest in (0, 9):
            self.start()
            self.done(GUEST, 0, guest)
            self.stand_with(ASKING, session=True)
            self.ask(FRAME, 0, 100, 6)
            self.assert_port(0, ASKING, 1, 5, 1, 3, 7, 100, 20, 300, 0, 6, guest)
            self.done(TICK, 5)
            self.assert_port(0, ASKING, 0, 5, 1, 3, 7, 100, 20, 295, 0, 6, guest)
            self.done(TICK, 5)
            self.assert_port(0, HELD, 30, 0, guest)
            self.done(REPORT)
            self.assert_bag((COUNT, 3, 6, 1))

    def test_looked_at_once_however_long(self):
        self.done(PLUG, 0)
        self.done(TICK, 1000000)
        self.assert_port(0, ASKING, 0, 5, 0, 0)


class SendingTest(Hall):
    def test_looking_sends_yet(self):
        self.start(tries=3)
        self.say(1)
        for left in (1, 0):
            self.empty_bag()
            self.done(TICK, 6)
            self.assert_port(1, LOOKING, 1, 7, 100, left, 5, 0, 0)
            self.assert_bag((HELLO, 1, 1, 7, 100))
        self.empty_bag()
        self.done(TICK, 5)
        self.assert_port(1, HELD, 30, 0, 0)
        self.assert_bag()

    def test_checking_sends_yet(self):
        self.start(tries=3)
        self.reply(1)
        x = keyed_sum(11, 2)
        for left in (1, 0):
            self.empty_bag()
            self.done(TICK, 6)
            self.assert_port(1, CHECKING, 1, 7, 100, 2, x, left, 5, 0, 0)
            self.assert_bag((ANSWER, 1, 2, x))
        self.empty_bag()
        self.done(TICK, 5)
        self.assert_port(1, HELD, 30, 0, 0)
        self.assert_bag()

    def test_the_time_when_it_was_first_sent_stays(self):
        self.reply(0)
        self.done(TICK, 5)
        self.done(DELIVER, 0)
        self.done(DELIVER, 1)
        self.assertEqual(self.told(PORT, 0)[0:2] + self.told(PORT, 0)[6:8], [INSIDE, 1, 595, 300])

    def test_with_a_guest_vlan_it_is_held(self):
        for kind in (LOOKING, CHECKING):
            self.start(tries=1)
            self.done(GUEST, 0, 9)
            self.stand_with(kind)
            self.done(TICK, 5)
            self.assert_port(0, HELD, 30, 0, 9)

    def test_with_a_session(self):
        for kind in (LOOKING, CHECKING):
            self.start()
            self.stand_with(kind, session=True)
            self.done(TICK, 5)
            self.assertEqual(self.told(PORT, 0)[0], kind)
            self.assertEqual(len(self.bag()), 1)
            self.done(TICK, 5)
            self.assert_port(0, INSIDE, 1, 3, 7, 100, 20, 590, 30, 0, 0)
            self.assert_counts(records=0)
            self.done(TICK, 30)
            self.assert_port(0, ASKING, 1, 5, 1, 3, 7, 100, 20, 560, 0, 0, 0)

    def test_ports_rising(self):
        self.start(tries=5)
        for port, host in ((2, 100), (0, 102), (1, 100)):
            self.say(port, host)
        self.empty_bag()
        self.done(TICK, 5)
        self.assert_bag((HELLO, 0, 2, 8, 102), (HELLO, 1, 3, 7, 100), (HELLO, 2, 1, 7, 100))


class OtherStandsTest(Hall):
    def test_challenged(self):
        for guest in (0, 9):
            self.start()
            self.done(GUEST, 0, guest)
            self.stand_with(CHALLENGED)
            self.done(TICK, 5)
            self.assert_port(0, HELD, 30, 0, guest)
            self.assert_counts(records=0)

    def test_challenged_with_a_session(self):
        self.stand_with(CHALLENGED, session=True)
        self.ask(FRAME, 0, 100, 6)
        self.done(TICK, 5)
        self.assert_port(0, HELD, 30, 0, 0)
        self.done(REPORT)
        self.assert_bag((COUNT, 3, 6, 1))

    def test_held(self):
        self.stand_with(HELD)
        self.done(GUEST, 0, 9)
        self.assert_port(0, HELD, 30, 0, 9)
        self.done(TICK, 30)
        self.assert_port(0, ASKING, 1, 5, 0, 9)

    def test_inside(self):
        self.admit(0)
        self.done(TICK, 300)
        self.assert_port(0, ASKING, 1, 5, 1, 3, 7, 100, 20, 300, 0, 0, 0)
        self.assert_counts(records=0, sessions=1)


class OverTest(Hall):
    """Sessions that go on until a time not above now."""

    def short(self, kind, length=4, guest=0):
        """The port 0 with a session that goes on for so long yet."""
        self.start()
        self.done(GUEST, 0, guest)
        self.stand_with(kind, session=True)
        self.ask(FRAME, 0, 100, 6)
        self.world.ports[0].session.until = self.world.now + length

    def assert_record(self):
        self.empty_bag()
        self.done(REPORT)
        self.assert_bag((COUNT, 3, 6, 1))

    def test_inside(self):
        for past in (0, 1, 1000):
            self.admit_for(4)
            self.done(TICK, 4 + past)
            self.assert_port(0, ASKING, 1, 5, 0, 0)
            self.assert_record()

    def admit_for(self, length):
        self.start()
        self.done(NORULES)
        self.done(RULE, 1, 0, 63, 0, 86399, 20, length, 300)
        self.admit(0)
        self.ask(FRAME, 0, 100, 6)

    def test_one_before(self):
        self.admit_for(4)
        self.done(TICK, 3)
        self.assert_port(0, INSIDE, 1, 3, 7, 100, 20, 1, 297, 6, 0)

    def test_inside_and_due_at_once_asks_anew_once(self):
        self.start(tries=1)
        self.done(NORULES)
        self.done(RULE, 1, 0, 63, 0, 86399, 20, 4, 4)
        self.admit(0)
        self.done(TICK, 4)
        self.assert_port(0, ASKING, 0, 5, 0, 0)

    def test_not_inside_and_not_due(self):
        for kind in (ASKING, LOOKING, CHALLENGED, CHECKING):
            self.short(kind)
            before = self.told(PORT, 0)
            self.done(TICK, 4)
            before[-10] -= 4
            self.assert_port(0, *before[:-9], 0, 0)
            self.assert_bag()
            self.assert_record()

    def test_asking_and_due(self):
        for guest, told in ((0, (HELD, 30, 0, 0)), (9, (AS_GUEST, 0, 9))):
            self.short(ASKING, 10, guest)
            self.done(TICK, 5)
            self.assertEqual(self.told(PORT, 0)[:3], [ASKING, 0, 5])
            self.done(TICK, 5)
            self.assert_port(0, *told)
            self.assert_record()

    def test_looking_and_checking_and_due(self):
        for kind in (LOOKING, CHECKING):
            self.short(kind, 10)
            self.done(TICK, 5)
            self.assertEqual(self.told(PORT, 0)[0], kind)
            self.done(TICK, 5)
            self.assert_port(0, HELD, 30, 0, 0)
            self.assert_record()

    def test_looking_sends_yet(self):
        self.short(LOOKING, 5)
        self.done(TICK, 5)
        self.assert_port(0, LOOKING, 4, 7, 100, 0, 5, 0, 0)
        self.assert_bag((HELLO, 0, 4, 7, 100))
        self.assert_record()

    def test_challenged_and_due_ends_once(self):
        self.short(CHALLENGED, 5)
        self.done(TICK, 5)
        self.assert_port(0, HELD, 30, 0, 0)
        self.assert_record()

    def test_ports_rising(self):
        late = self.admit(2)
        early = self.admit(0, 102)
        self.done(TICK, 600)
        self.empty_bag()
        self.done(REPORT)
        self.assert_bag((COUNT, early, 0, 1), (COUNT, late, 0, 1))


class ForgetTest(Hall):
    def test_known_attempts(self):
        self.done(DELIVER, self.say(0))
        self.done(TICK, 40)
        self.done(DELIVER, self.say(1, 102))
        self.done(TICK, 59)
        self.assert_counts(known=2)
        self.done(TICK, 1)
        self.assert_counts(known=1)
        self.done(TICK, 39)
        self.assert_counts(known=1)
        self.done(TICK, 1)
        self.assert_counts(known=0)

    def test_decided_attempts_too(self):
        self.admit(0)
        self.done(TICK, 99)
        self.assert_counts(known=1)
        self.done(TICK, 1)
        self.assert_counts(known=0)

    def test_begun_sessions(self):
        self.decide(0)
        self.done(NORULES)
        self.done(MEMBER, 8, 2, 1)
        self.done(RULE, 2, 0, 63, 0, 86399, 20, 700, 300)
        self.decide(1, 102)
        self.done(TICK, 599)
        self.assert_counts(begun=2)
        self.done(TICK, 1)
        self.assert_counts(begun=1)
        self.done(TICK, 99)
        self.assert_counts(begun=1)
        self.done(TICK, 1)
        self.assert_counts(begun=0)

    def test_counted_from_when_it_was_decided(self):
        self.reply(0)
        self.done(TICK, 50)
        self.done(DELIVER, 0)
        self.done(TICK, 599)
        self.assert_counts(begun=1)
        self.done(TICK, 1)
        self.assert_counts(begun=0)

    def test_a_refused_tick_forgets_nothing(self):
        self.decide(0)
        self.refused(-2, TICK, 2**62)
        self.refused(-1, TICK, 0)
        self.assert_counts(known=1, begun=1)


class DueByWaitTest(Hall):
    def test_wait_and_hold_as_begin_told_them(self):
        self.start(wait=70, hold=90, tries=1)
        self.done(PLUG, 0)
        self.assert_port(0, ASKING, 0, 70, 0, 0)
        self.done(TICK, 69)
        self.assert_port(0, ASKING, 0, 1, 0, 0)
        self.done(TICK, 1)
        self.assert_port(0, HELD, 90, 0, 0)
        self.done(TICK, 90)
        self.assert_port(0, ASKING, 0, 70, 0, 0)
        self.challenge(1)
        self.assertEqual(self.told(PORT, 1)[5], 70)
