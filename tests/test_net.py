"""Calls 16 to 19 and 24: report, deliver, lose, double, bag; and the bag that is full."""

from tests.helper import (
    ACCOUNT, ANSWER, BAG, BAR, BYE, CHALLENGE, CHALLENGED, COUNT, DELIVER, DOUBLE, FRAME, GOT, HELLO, LEAST,
    LOOKING, LOSE, MOST, NO, OVER, PLUG, PORT, REPLY, REPORT, SAY, START, TICK, UNPLUG, YES, Hall, keyed_sum, run,
)


class PlaceTest(Hall):
    def test_an_empty_bag(self):
        for call in (DELIVER, LOSE, DOUBLE):
            for place in (0, -1, 1, LEAST, MOST):
                self.refused(-1, call, place)

    def test_no_message_at_the_place(self):
        self.say(0)
        self.say(1)
        for call in (DELIVER, LOSE, DOUBLE):
            for place in (2, -1, -2, 20, LEAST, MOST):
                self.refused(-1, call, place)

    def test_first_and_last_place(self):
        for call in (DELIVER, LOSE, DOUBLE):
            for place in (0, 1):
                self.start()
                self.say(0)
                self.say(1)
                self.done(call, place)

    def test_in_a_list(self):
        rows = run(
            START, (PLUG, 0), (SAY, 0, 100, 7), (DELIVER, 1), (DOUBLE, 1), (LOSE, 1), (DOUBLE, 0), (LOSE, 1),
            (DELIVER, 0), (BAG,), (DELIVER, 0), (BAG,), (DELIVER, 0),
        )
        self.assertEqual(rows[3:], [[-1], [-1], [-1], [0], [0], [0], [0, 1, NO, 0, 1], [0], [0, 0], [-1]])


class LoseTest(Hall):
    def test_that_message_is_taken_out(self):
        for place in (0, 1, 2):
            self.start()
            hellos = [(HELLO, 0, 1, 7, 100), (HELLO, 1, 2, 8, 102), (HELLO, 2, 3, 7, 100)]
            for port, host in ((0, 100), (1, 102), (2, 100)):
                self.say(port, host)
            self.done(LOSE, place)
            hellos.pop(place)
            self.assert_bag(*hellos)
            self.assert_counts(lost=0, known=0)


class DoubleTest(Hall):
    def test_put_at_the_end_once_more(self):
        self.say(0)
        self.say(1, 102)
        self.done(DOUBLE, 0)
        self.assert_bag((HELLO, 0, 1, 7, 100), (HELLO, 1, 2, 8, 102), (HELLO, 0, 1, 7, 100))
        self.assert_counts(book=2, lost=0)

    def test_full(self):
        self.start(bag=2)
        self.say(0)
        self.done(DOUBLE, 0)
        self.refused(-2, DOUBLE, 0)
        self.refused(-2, DOUBLE, 1)
        self.assert_counts(lost=0)

    def test_no_message_is_told_before_full(self):
        self.start(bag=1)
        self.say(0)
        for place in (1, -1, LEAST, MOST):
            self.refused(-1, DOUBLE, place)

    def test_room_to_the_last_place(self):
        for size in (1, 2, 1024):
            self.start(bag=size)
            self.say(0)
            for k in range(size - 1):
                self.done(DOUBLE, 0)
            self.refused(-2, DOUBLE, 0)
            self.assertEqual(self.told(BAG), [size] + [HELLO, 0, 1, 7, 100] * size)


class BagTest(Hall):
    def test_empty(self):
        self.assertEqual(self.ask(BAG), [0, 0])

    def test_to_the_directory(self):
        self.say(0)
        self.assert_bag((HELLO, 0, 1, 7, 100))
        self.empty_bag()
        n, c = self.challenge(1, 102)
        self.done(REPLY, 1, 102, 2**62)
        self.assert_bag((ANSWER, n, c, 2**62))
        self.empty_bag()
        number = self.admit(2, 100)
        self.ask(FRAME, 2, 100, 5)
        self.done(REPORT)
        self.assert_bag((COUNT, number, 5, 0))

    def test_to_the_switch(self):
        self.done(DELIVER, self.say(0))
        self.assert_bag((CHALLENGE, 0, 1, 2))
        self.done(DELIVER, 0)
        self.done(REPLY, 0, 100, keyed_sum(11, 2))
        self.done(DELIVER, 0)
        self.assert_bag((YES, 0, 1, 3, 20, 600, 300))
        self.done(DELIVER, 0)
        self.done(BAR, 7, 1)
        self.assert_bag((OVER, 3))
        self.done(UNPLUG, 0)
        self.done(REPORT)
        self.done(DELIVER, 1)
        self.assert_bag((OVER, 3), (GOT, 3, 0))
        self.done(DELIVER, self.say(1))
        self.assert_bag((OVER, 3), (GOT, 3, 0), (NO, 1, 4))

    def test_asking_changes_nothing(self):
        self.say(0)
        before = self.ask(BAG)
        self.assertEqual(self.ask(BAG), before)

    def test_not_first_come_first_served(self):
        self.say(0)
        self.say(1, 102)
        self.done(DELIVER, 1)
        self.done(DELIVER, 1)
        self.assert_bag((HELLO, 0, 1, 7, 100))
        self.assertEqual(self.told(PORT, 1)[0], CHALLENGED)
        self.assertEqual(self.told(PORT, 0)[0], LOOKING)


class FullTest(Hall):
    def test_what_is_sent_is_lost_and_counted(self):
        self.start(bag=1)
        self.say(0)
        self.say(1, 102)
        self.assert_bag((HELLO, 0, 1, 7, 100))
        self.assert_counts(lost=1, book=2)
        self.say(2, 102)
        self.assert_bag((HELLO, 0, 1, 7, 100))
        self.assert_counts(lost=2, book=3)

    def test_what_is_delivered_leaves_room(self):
        self.start(bag=1)
        self.say(0)
        self.done(DELIVER, 0)
        self.assert_bag((CHALLENGE, 0, 1, 2))
        self.assert_counts(lost=0)

    def test_one_delivered_and_two_sent(self):
        self.start(bag=1)
        self.admit(0)
        self.decide(1)
        self.assertEqual(self.bag()[0][0], YES)
        self.assert_counts(lost=1, begun=2)

    def test_the_answer_sent_once_more_by_tick(self):
        self.reply(0)
        self.fill_bag()
        before = self.bag()
        self.done(TICK, 5)
        self.assertEqual(self.bag(), before)
        self.assert_counts(lost=1)
        self.assertEqual(self.told(PORT, 0)[6:8], [0, 5])

    def test_report(self):
        self.start(bag=2)
        numbers = [self.admit(0), self.admit(1, 102)]
        self.done(BYE, 0, 100)
        self.admit(0)
        self.empty_bag()
        self.done(REPORT)
        self.assertEqual([row[0] for row in self.bag()], [COUNT, COUNT])
        self.assertNotIn([COUNT, numbers[0], 0, 1], self.bag())
        self.assert_counts(lost=1, records=1)

    def test_double_and_lose_do_not_count(self):
        self.start(bag=1)
        self.say(0)
        self.ask(DOUBLE, 0)
        self.done(LOSE, 0)
        self.assert_counts(lost=0)


class ReportTest(Hall):
    def test_nothing_to_report(self):
        self.done(PLUG, 0)
        self.done(REPORT)
        self.assert_bag()

    def test_ports_rising_then_records_in_order(self):
        late = self.admit(2)
        self.ask(FRAME, 2, 100, 4)
        self.done(UNPLUG, 2)
        second = self.admit(1, 102)
        self.ask(FRAME, 1, 102, 6)
        self.done(BYE, 1, 102)
        there = self.admit(2, 102)
        early = self.admit(0)
        self.ask(FRAME, 2, 102, 9)
        self.empty_bag()
        self.done(REPORT)
        self.assert_bag((COUNT, early, 0, 0), (COUNT, there, 9, 0), (COUNT, late, 4, 1), (COUNT, second, 6, 1))
        self.assert_counts(sessions=2, records=2)

    def test_however_the_port_stands(self):
        for kind in (1, 2, 3, 4, 7):
            self.start()
            self.stand_with(kind, session=True)
            number = self.told(PORT, 0)[-8]
            self.done(REPORT)
            self.assert_bag((COUNT, number, 0, 0))

    def test_sent_as_often_as_asked(self):
        number = self.admit(0)
        self.done(BYE, 0, 100)
        self.done(REPORT)
        self.done(REPORT)
        self.assert_bag((COUNT, number, 0, 1), (COUNT, number, 0, 1))
        self.refused(-1, ACCOUNT, number)
