"""Calls 20 and 21: restart and reboot."""

from tests.helper import (
    ACCOUNT, AS_GUEST, ASKING, BAG, BAR, BYE, CHALLENGE, CHALLENGED, CHECKING, COUNTS, DELIVER, DOWN, FRAME, GUEST,
    HELD, INSIDE, LOOKING, PLUG, PORT, REBOOT, REPLY, REPORT, RESTART, SAY, START, TICK, UNPERSON, WHOIS, Hall,
    keyed_sum, picture, run,
)


class RestartTest(Hall):
    def test_each_way_alone(self):
        for kind in (ASKING, LOOKING, CHALLENGED, CHECKING, HELD, AS_GUEST):
            self.start()
            self.stand_with(kind)
            self.done(TICK, 1)
            self.done(GUEST, 0, 9)
            self.done(RESTART)
            self.assert_port(0, ASKING, 1, 5, 0, 9)

    def test_each_way_with_a_session(self):
        for kind in (ASKING, LOOKING, CHALLENGED, CHECKING, INSIDE):
            self.start()
            self.stand_with(kind, session=True)
            self.done(TICK, 1)
            self.done(RESTART)
            self.assert_port(0, ASKING, 1, 5, 0, 0)
            self.assert_counts(sessions=0, records=0)
            self.assert_bag()

    def test_down_stays_down(self):
        self.done(GUEST, 1, 9)
        self.done(PLUG, 0)
        self.done(RESTART)
        self.assert_port(1, DOWN, 0, 9)
        self.assert_port(2, DOWN, 0, 0)

    def test_there_are_no_records(self):
        self.admit(0)
        self.done(BYE, 0, 100)
        self.admit(1, 102)
        self.assert_counts(records=1, sessions=1)
        self.done(RESTART)
        self.assert_counts(records=0, sessions=0)
        self.done(REPORT)
        self.assert_bag()

    def test_what_stays(self):
        self.start(bag=1)
        self.admit(0)
        self.say(1, 102)
        self.say(2)
        before = picture(self.world)
        bag = self.ask(BAG)
        counts = self.told(COUNTS)
        self.done(RESTART)
        self.assertEqual(self.ask(BAG), bag)
        counts[3] = 0
        self.assertEqual(self.told(COUNTS), counts)
        after = picture(self.world)
        for name in before:
            if name not in ("ports", "records"):
                self.assertEqual(after[name], before[name], name)

    def test_messages_of_before_do_nothing(self):
        self.decide(0)
        self.done(RESTART)
        before = self.ask(PORT, 0)
        self.deliver_all()
        self.assertEqual(self.ask(PORT, 0), before)
        self.assert_counts(begun=1, sessions=0)

    def test_in_a_list(self):
        rows = run(START, (PLUG, 0), (SAY, 0, 100, 7), (RESTART,), (PORT, 0), (PORT, 1), (BAG,))
        self.assertEqual(rows[3:], [[0], [0, 1, 1, 5, 0, 0], [0, 0, 0, 0], [0, 1, 0, 0, 1, 7, 100]])


class RebootTest(Hall):
    def test_no_known_attempts_and_no_begun_sessions(self):
        self.decide(0)
        self.done(DELIVER, self.say(1, 102))
        self.assert_counts(known=2, begun=1)
        self.done(REBOOT)
        self.assert_counts(known=0, begun=0)

    def test_what_stays(self):
        self.start(bag=3)
        number = self.admit(0)
        self.ask(FRAME, 0, 100, 6)
        self.done(REPORT)
        self.deliver_all()
        self.challenge(1, 102)
        self.done(REPLY, 1, 102, 5)
        self.deliver_all()
        self.done(BAR, 8, 1)
        before = picture(self.world)
        asked = ((WHOIS, 7), (WHOIS, 8), (ACCOUNT, number), (PORT, 0), (PORT, 1), (BAG,))
        told = [self.ask(*call) for call in asked]
        self.assertEqual(told[1], [0, 102, 1, 1, 0, 1, 1])
        self.assertEqual(told[2], [0, 6, 0])
        self.done(REBOOT)
        self.assertEqual([self.ask(*call) for call in asked], told)
        before["known"] = {}
        before["begun"] = []
        self.assert_unchanged(before)

    def test_a_lock_stays(self):
        self.start(wrong=1)
        self.challenge(0)
        self.done(REPLY, 0, 100, 5)
        self.deliver_all()
        self.done(REBOOT)
        self.assertEqual(self.told(WHOIS, 7)[3], 60)

    def test_no_over_for_what_was_begun_before(self):
        self.admit(0)
        self.done(REBOOT)
        self.done(BAR, 7, 1)
        self.done(UNPERSON, 7)
        self.assert_bag()
        self.assertEqual(self.told(PORT, 0)[0], INSIDE)

    def test_an_answer_to_a_challenge_of_before_does_nothing(self):
        place = self.reply(0)
        self.done(REBOOT)
        self.done(DELIVER, place)
        self.assert_bag()
        self.assert_counts(begun=0, book=2)

    def test_a_hello_of_before_is_new(self):
        self.say(0)
        self.done(TICK, 5)
        self.done(DELIVER, 0)
        self.done(DELIVER, 1)
        self.done(REPLY, 0, 100, keyed_sum(11, 2))
        self.done(REBOOT)
        self.done(DELIVER, 0)
        self.assertIn([CHALLENGE, 0, 1, 3], self.bag())
        before = self.ask(PORT, 0)
        self.deliver_all()
        self.assertEqual(self.ask(PORT, 0), before)

    def test_in_a_list(self):
        rows = run(START, (PLUG, 0), (REBOOT,), (PORT, 0), (COUNTS,))
        self.assertEqual(rows[2:], [[0], [0, 1, 1, 5, 0, 0], [0] * 10])
