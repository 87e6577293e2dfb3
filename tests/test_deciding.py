"""What the directory does with hello, answer and count."""

from tests.helper import (
    ACCOUNT, ANSWER, BAR, BYE, CHALLENGE, COUNT, DELIVER, FRAME, GOT, HELLO, MEMBER, NO, NORULES, OVER, PERSON,
    REPORT, RULE, SECRET, TICK, UNPERSON, WHOIS, YES, Hall, keyed_sum, picture,
)

# At 1000, as in Hall: wrong 3, lock 60, life 100, asks 4.


class Directory(Hall):
    """Messages to the directory, handed over by deliver; the ports stay down."""

    def hand(self, *message):
        """The message is put into the bag and delivered. Tells what is sent for it."""
        self.empty_bag()
        self.world.bag.append(message)
        self.done(DELIVER, 0)
        return [tuple(row) for row in self.bag()]

    def hello(self, n, port=0, who=7, host=100):
        return self.hand(HELLO, port, n, who, host)

    def answer(self, n, c, x):
        return self.hand(ANSWER, n, c, x)

    def good(self, n, port=0, who=7, host=100):
        """A hello and its good answer. Tells what is sent for the answer."""
        c = self.hello(n, port, who, host)[0][3]
        return self.answer(n, c, keyed_sum(self.SECRETS[who], c))

    def wrong(self, n, who=7, host=100):
        c = self.hello(n, 0, who, host)[0][3]
        return self.answer(n, c, keyed_sum(self.SECRETS[who], c) + 1)

    def whois(self, who=7):
        """Barred, wrong answers, rest of the lock."""
        return self.told(WHOIS, who)[1:4]


class NewHelloTest(Directory):
    def test_may_be_admitted(self):
        self.assertEqual(self.hello(50), [(CHALLENGE, 0, 50, 1)])
        self.assert_counts(book=1, known=1, begun=0)
        self.assertEqual(self.hello(51, 2, 8, 102), [(CHALLENGE, 2, 51, 2)])
        self.assert_counts(book=2, known=2)
        self.assertEqual(picture(self.world.known), {
            50: {"port": 0, "who": 7, "host": 100, "challenge": 1, "forgotten": 1100, "decided": None},
            51: {"port": 2, "who": 8, "host": 102, "challenge": 2, "forgotten": 1100, "decided": None},
        })

    def denied(self, n, who=7, host=100):
        self.assertEqual(self.hello(n, 1, who, host), [(NO, 1, n)])
        self.assert_counts(book=0, known=0)

    def test_no_person(self):
        self.denied(50, 9, 100)
        self.done(UNPERSON, 7)
        self.denied(51)

    def test_another_host(self):
        self.denied(50, 7, 102)
        self.denied(51, 8, 100)
        self.denied(52, 7, 101)

    def test_barred(self):
        self.done(BAR, 7, 1)
        self.denied(50)
        self.done(BAR, 7, 0)
        self.assertEqual(self.hello(51), [(CHALLENGE, 0, 51, 1)])

    def test_in_no_group_is_challenged_yet(self):
        self.done(MEMBER, 7, 1, 0)
        self.done(NORULES)
        self.assertEqual(self.hello(50), [(CHALLENGE, 0, 50, 1)])

    def test_locked_until(self):
        self.world.persons[7].locked = 1010
        self.denied(50)
        self.done(TICK, 9)
        self.denied(51)
        self.done(TICK, 1)
        self.assertEqual(self.hello(52), [(CHALLENGE, 0, 52, 1)])

    def test_as_many_known_as_asks(self):
        for asks in (1, 4):
            self.start(asks=asks)
            for n in range(asks):
                self.assertEqual(len(self.hello(50 + n)), 1)
            before = picture(self.world)
            self.assertEqual(self.hello(60), [])
            self.empty_bag()
            before["bag"] = []
            self.assert_unchanged(before)

    def test_full_of_attempts_and_not_to_be_admitted(self):
        self.start(asks=1)
        self.hello(50)
        self.assertEqual(self.hello(51, 1, 9, 100), [(NO, 1, 51)])
        self.assert_counts(known=1, book=1)

    def test_full_of_attempts_and_known(self):
        self.start(asks=1)
        self.hello(50)
        self.assertEqual(self.hello(50), [(CHALLENGE, 0, 50, 1)])

    def test_decided_attempts_count_too(self):
        self.start(asks=1)
        self.assertEqual(self.good(50)[0][0], YES)
        self.assertEqual(self.hello(51), [])

    def test_room_when_one_is_forgotten(self):
        self.start(asks=1)
        self.hello(50)
        self.done(TICK, 99)
        self.assertEqual(self.hello(51), [])
        self.done(TICK, 1)
        self.assertEqual(self.hello(51), [(CHALLENGE, 0, 51, 2)])
        self.assert_counts(known=1)


class KnownHelloTest(Directory):
    def test_nothing_decided(self):
        self.hello(50, 1)
        for k in range(2):
            self.assertEqual(self.hello(50, 1), [(CHALLENGE, 1, 50, 1)])
        self.assert_counts(known=1, book=1)

    def test_known_is_looked_at_before_the_person(self):
        self.hello(50)
        self.done(BAR, 7, 1)
        self.assertEqual(self.hello(50), [(CHALLENGE, 0, 50, 1)])
        self.done(UNPERSON, 7)
        self.assertEqual(self.hello(50), [(CHALLENGE, 0, 50, 1)])

    def test_yes_was_decided(self):
        yes = [(YES, 1, 50, 2, 20, 600, 300)]
        self.assertEqual(self.good(50, 1), yes)
        self.done(NORULES)
        self.done(RULE, 1, 0, 63, 0, 86399, 21, 601, 301)
        self.done(BAR, 7, 1)
        for k in range(2):
            self.assertEqual(self.hello(50, 1), yes)
        self.assert_counts(begun=1, book=2)

    def test_no_was_decided(self):
        self.assertEqual(self.wrong(50), [(NO, 0, 50)])
        for k in range(2):
            self.assertEqual(self.hello(50), [(NO, 0, 50)])
        self.assertEqual(self.whois(), [0, 1, 0])

    def test_the_time_when_it_is_forgotten_stays(self):
        self.hello(50)
        self.done(TICK, 60)
        self.hello(50)
        self.done(TICK, 39)
        self.assert_counts(known=1)
        self.done(TICK, 1)
        self.assert_counts(known=0)

    def test_forgotten_and_sent_once_more_it_is_new(self):
        self.hello(50)
        self.done(TICK, 100)
        self.assertEqual(self.hello(50), [(CHALLENGE, 0, 50, 2)])

    def test_over_is_not_sent_once_more(self):
        self.good(50, 0)
        self.assertEqual(self.good(51, 1), [(YES, 1, 51, 4, 20, 600, 300), (OVER, 2)])
        self.assertEqual(self.hello(51, 1), [(YES, 1, 51, 4, 20, 600, 300)])
        self.assertEqual(self.answer(51, 3, 0), [(YES, 1, 51, 4, 20, 600, 300)])


class AnswerTest(Directory):
    def test_no_known_attempt(self):
        self.hello(50)
        before = picture(self.world)
        before["bag"] = []
        x = keyed_sum(11, 1)
        for n, c in ((51, 1), (50, 2), (50, 0), (1, 50)):
            self.assertEqual(self.answer(n, c, x), [])
            self.assert_unchanged(before)

    def test_another_challenge_after_it_was_decided(self):
        self.good(50)
        self.assertEqual(self.answer(50, 2, 0), [])

    def test_yes(self):
        self.done(TICK, 23)
        self.hello(50, 2)
        self.assertEqual(self.answer(50, 1, keyed_sum(11, 1)), [(YES, 2, 50, 2, 20, 600, 300)])
        self.assert_counts(book=2, known=1, begun=1, sessions=0)
        self.assertEqual(picture(self.world.begun), [
            {"number": 2, "who": 7, "host": 100, "port": 2, "over": 1623},
        ])

    def test_sent_once_more(self):
        yes = self.good(50)
        for x in (keyed_sum(11, 1), 5):
            self.assertEqual(self.answer(50, 1, x), yes)
        self.assert_counts(book=2, begun=1)
        self.assertEqual(self.whois(), [0, 0, 0])
        no = self.wrong(51)
        for x in (keyed_sum(11, 3), 5):
            self.assertEqual(self.answer(51, 3, x), no)
        self.assertEqual(self.whois(), [0, 1, 0])

    def test_may_not_be_admitted_any_more(self):
        ways = (
            ((BAR, 7, 1),), ((UNPERSON, 7),), ((UNPERSON, 7), (PERSON, 7, 11, 104), (MEMBER, 7, 1, 1)),
        )
        for way in ways:
            for x in (keyed_sum(11, 1), 5):
                self.start()
                self.hello(50, 1)
                for call in way:
                    self.done(*call)
                self.assertEqual(self.answer(50, 1, x), [(NO, 1, 50)])
                self.assert_counts(begun=0, book=1)
                if 7 in self.world.persons:
                    self.assertEqual(self.whois()[1:], [0, 0])

    def test_barred_only_between(self):
        self.hello(50)
        self.done(BAR, 7, 1)
        self.done(BAR, 7, 0)
        self.assertEqual(self.answer(50, 1, keyed_sum(11, 1))[0][0], YES)

    def test_a_no_stays_a_no(self):
        self.hello(50)
        self.done(BAR, 7, 1)
        self.answer(50, 1, keyed_sum(11, 1))
        self.done(BAR, 7, 0)
        self.assertEqual(self.answer(50, 1, keyed_sum(11, 1)), [(NO, 0, 50)])

    def test_the_secret_of_now(self):
        self.hello(50)
        self.done(SECRET, 7, 15)
        self.assertEqual(self.answer(50, 1, keyed_sum(15, 1))[0][0], YES)
        self.hello(51)
        self.done(SECRET, 7, 16)
        self.assertEqual(self.answer(51, 3, keyed_sum(15, 3)), [(NO, 0, 51)])

    def test_answers_that_are_near(self):
        good = keyed_sum(11, 1)
        for x in (0, good - 1, good + 1, good + 2**61 - 1, 2**62, keyed_sum(11, 2), keyed_sum(12, 1)):
            self.start()
            self.hello(50)
            self.assertEqual(self.answer(50, 1, x), [(NO, 0, 50)])
            self.assertEqual(self.whois(), [0, 1, 0])


class WrongTest(Directory):
    def test_up_to_the_lock(self):
        self.done(TICK, 7)
        for n, seen in ((50, [0, 1, 0]), (51, [0, 2, 0]), (52, [0, 0, 60])):
            self.assertEqual(self.wrong(n), [(NO, 0, n)])
            self.assertEqual(self.whois(), seen)
        self.assertEqual(self.hello(53), [(NO, 0, 53)])
        self.done(TICK, 59)
        self.assertEqual(self.whois(), [0, 0, 1])
        self.assertEqual(self.hello(54), [(NO, 0, 54)])
        self.done(TICK, 1)
        self.assertEqual(self.whois(), [0, 0, 0])
        self.assertEqual(self.hello(55)[0][0], CHALLENGE)

    def test_only_that_person(self):
        self.wrong(50)
        self.wrong(51, 8, 102)
        self.wrong(52)
        self.assertEqual(self.whois(7), [0, 2, 0])
        self.assertEqual(self.whois(8), [0, 1, 0])

    def test_wrong_of_one_locks_at_once(self):
        self.start(wrong=1)
        self.wrong(50)
        self.assertEqual(self.whois(), [0, 0, 60])

    def test_an_answer_while_it_is_locked(self):
        self.start(wrong=1)
        self.hello(50)
        self.hello(51)
        self.hello(52)
        self.answer(50, 1, 5)
        self.assertEqual(self.answer(51, 2, keyed_sum(11, 2)), [(NO, 0, 51)])
        self.assertEqual(self.answer(52, 3, 5), [(NO, 0, 52)])
        self.assertEqual(self.whois(), [0, 0, 60])

    def test_a_good_answer_makes_them_0(self):
        self.wrong(50)
        self.wrong(51)
        self.good(52)
        self.assertEqual(self.whois(), [0, 0, 0])

    def test_a_good_answer_with_no_rule_makes_them_0(self):
        self.wrong(50)
        self.done(NORULES)
        self.assertEqual(self.good(51), [(NO, 0, 51)])
        self.assertEqual(self.whois(), [0, 0, 0])

    def test_locked_again_after_the_lock(self):
        self.start(wrong=2)
        self.wrong(50)
        self.wrong(51)
        self.done(TICK, 60)
        self.wrong(52)
        self.assertEqual(self.whois(), [0, 1, 0])
        self.wrong(53)
        self.assertEqual(self.whois(), [0, 0, 60])


class RuleTest(Directory):
    def rules(self, *rules):
        self.done(NORULES)
        for rule in rules:
            self.done(RULE, *rule)

    def vlan(self, n, port=0):
        """The VLAN of a good answer's yes, 0 for a no."""
        told = self.good(n, port)
        self.assertEqual(len(told), 1)
        if told[0][0] == NO:
            self.assertEqual(told, [(NO, port, n)])
            return 0
        return told[0][4]

    def test_no_rule(self):
        self.rules()
        self.assertEqual(self.vlan(50), 0)
        self.assert_counts(begun=0, book=1, known=1)

    def test_the_first_that_fits(self):
        self.done(MEMBER, 7, 5, 1)
        self.rules(
            (2, 0, 63, 0, 86399, 30, 1, 2), (5, 1, 63, 0, 86399, 31, 3, 4), (5, 0, 63, 0, 999, 32, 5, 6),
            (5, 0, 63, 0, 86399, 33, 7, 8), (1, 0, 63, 0, 86399, 34, 9, 10),
        )
        self.assertEqual(self.good(50), [(YES, 0, 50, 2, 33, 7, 8)])
        self.assertEqual(self.world.begun[0].over, 1007)

    def test_groups(self):
        for group in (0, 1, 63):
            self.start()
            self.rules((group, 0, 63, 0, 86399, 30, 600, 300))
            self.done(MEMBER, 7, 1, 0)
            self.assertEqual(self.vlan(50), 0)
            self.done(MEMBER, 7, group, 1)
            self.assertEqual(self.vlan(51), 30)
            self.done(MEMBER, 7, group, 0)
            self.assertEqual(self.vlan(52), 0)

    def test_ports(self):
        self.start(ports=64, asks=256)
        self.rules((1, 3, 5, 0, 86399, 30, 600, 300))
        for port in (0, 2, 3, 4, 5, 6, 63):
            self.world.begun = []
            self.assertEqual(self.vlan(50 + port, port), 30 if 3 <= port <= 5 else 0)
        self.rules((1, 5, 3, 0, 86399, 30, 600, 300))
        for port in (2, 3, 4, 5, 6):
            self.assertEqual(self.vlan(150 + port, port), 0)

    def fits(self, since, till, times):
        """Which of the times of a day fit the rule's hours; the day is not the first one."""
        fit = []
        for time in times:
            self.start()
            self.rules((1, 0, 63, since, till, 30, 600, 300))
            self.done(TICK, 3 * 86400 - 1000 + time)
            if self.vlan(50) == 30:
                fit.append(time)
        return fit

    def test_hours_of_one_day(self):
        times = (0, 1, 999, 1000, 1001, 2000, 2999, 3000, 3001, 86399)
        self.assertEqual(self.fits(1000, 3000, times), [1000, 1001, 2000, 2999, 3000])
        self.assertEqual(self.fits(1000, 1000, times), [1000])
        self.assertEqual(self.fits(0, 0, times), [0])
        self.assertEqual(self.fits(86399, 86399, times), [86399])
        self.assertEqual(self.fits(0, 86399, times), list(times))

    def test_hours_that_go_over_midnight(self):
        times = (0, 1, 999, 1000, 1001, 2000, 2999, 3000, 3001, 86399)
        self.assertEqual(self.fits(3000, 1000, times), [0, 1, 999, 1000, 3000, 3001, 86399])
        self.assertEqual(self.fits(86399, 0, times), [0, 86399])
        self.assertEqual(self.fits(2000, 1999, times), list(times))
        self.assertEqual(self.fits(1001, 999, times), [time for time in times if time != 1000])

    def test_the_time_of_the_answer_and_not_of_the_hello(self):
        self.rules((1, 0, 63, 1050, 1060, 30, 600, 300))
        self.hello(50)
        self.done(TICK, 50)
        self.assertEqual(self.answer(50, 1, keyed_sum(11, 1)), [(YES, 0, 50, 2, 30, 600, 300)])


class OverTest(Directory):
    def test_of_the_same_host_at_other_ports_in_order(self):
        self.start(asks=256, ports=4)
        numbers = [self.good(50 + k, port)[0][3] for k, port in enumerate((2, 0, 2, 1))]
        other = self.good(60, 3, 8, 102)[0][3]
        told = self.good(61, 2)
        self.assertEqual(told[0][0], YES)
        self.assertEqual(told[1:], [(OVER, numbers[1]), (OVER, numbers[3])])
        self.assert_counts(begun=6)
        self.assertNotIn((OVER, other), told)

    def test_of_the_same_port_none(self):
        self.good(50, 1)
        self.assertEqual(len(self.good(51, 1)), 1)

    def test_after_a_no_none(self):
        self.good(50, 1)
        self.assertEqual(self.wrong(51), [(NO, 0, 51)])

    def test_the_host_counts_and_not_the_person(self):
        self.good(50, 1)
        self.done(UNPERSON, 7)
        self.done(PERSON, 9, 11, 100)
        self.done(MEMBER, 9, 1, 1)
        c = self.hello(51, 0, 9, 100)[0][3]
        told = self.answer(51, c, keyed_sum(11, c))
        self.assertEqual(told[1:], [(OVER, 2)])

    def test_sessions_that_are_over_by_then_get_none(self):
        self.good(50, 1)
        self.done(TICK, 599)
        self.assertEqual(len(self.good(51, 0)), 2)
        self.start()
        self.good(50, 1)
        self.done(TICK, 600)
        self.assertEqual(len(self.good(51, 0)), 1)

    def test_sent_behind_the_yes_where_the_bag_is_nearly_full(self):
        self.start(bag=2, ports=4)
        for k, port in enumerate((1, 2, 3)):
            self.good(50 + k, port)
        lost = self.world.lost
        told = self.good(60, 0)
        self.assertEqual([row[0] for row in told], [YES, OVER])
        self.assertEqual(self.world.lost, lost + 2)


class CountTest(Directory):
    def test_not_closed(self):
        self.assertEqual(self.hand(COUNT, 30, 5, 0), [])
        self.assertEqual(self.ask(ACCOUNT, 30), [0, 5, 0])

    def test_no_frames(self):
        self.assertEqual(self.hand(COUNT, 30, 0, 0), [])
        self.assertEqual(self.ask(ACCOUNT, 30), [0, 0, 0])

    def test_closed(self):
        self.assertEqual(self.hand(COUNT, 30, 5, 1), [(GOT, 30, 5)])
        self.assertEqual(self.ask(ACCOUNT, 30), [0, 5, 1])

    def test_whichever_is_more(self):
        for frames, seen in ((5, 5), (4, 5), (5, 5), (6, 6), (0, 6)):
            self.hand(COUNT, 30, frames, 0)
            self.assertEqual(self.ask(ACCOUNT, 30), [0, seen, 0])
        self.assertEqual(self.ask(ACCOUNT, 31), [-1])

    def test_closed_from_then_on(self):
        self.hand(COUNT, 30, 5, 1)
        self.assertEqual(self.hand(COUNT, 30, 9, 0), [])
        self.assertEqual(self.ask(ACCOUNT, 30), [0, 9, 1])

    def test_got_tells_what_the_message_says(self):
        self.hand(COUNT, 30, 9, 0)
        self.assertEqual(self.hand(COUNT, 30, 5, 1), [(GOT, 30, 5)])
        self.assertEqual(self.ask(ACCOUNT, 30), [0, 9, 1])
        self.assertEqual(self.hand(COUNT, 30, 5, 1), [(GOT, 30, 5)])

    def test_the_session_is_no_begun_session_any_more(self):
        self.good(50)
        self.good(51, 1, 8, 102)
        self.assertEqual([begun.number for begun in self.world.begun], [2, 4])
        self.hand(COUNT, 2, 5, 0)
        self.assert_counts(begun=2)
        self.hand(COUNT, 2, 5, 1)
        self.assertEqual([begun.number for begun in self.world.begun], [4])
        self.hand(COUNT, 2, 5, 1)
        self.assert_counts(begun=1)

    def test_by_report(self):
        number = self.admit(0)
        self.ask(FRAME, 0, 100, 5)
        self.done(REPORT)
        self.done(DELIVER, 0)
        self.assert_bag()
        self.assertEqual(self.ask(ACCOUNT, number), [0, 5, 0])
        self.ask(FRAME, 0, 100, 6)
        self.done(BYE, 0, 100)
        self.assert_counts(records=1, begun=1)
        self.done(REPORT)
        self.done(DELIVER, 0)
        self.assert_bag((GOT, number, 11))
        self.assertEqual(self.ask(ACCOUNT, number), [0, 11, 1])
        self.assert_counts(records=1, begun=0)
        self.done(DELIVER, 0)
        self.assert_counts(records=0)

    def test_got_takes_the_room_of_count(self):
        self.world.bag.append((COUNT, 30, 5, 1))
        self.fill_bag()
        self.done(DELIVER, 0)
        self.assertEqual(self.bag()[-1], [GOT, 30, 5])
        self.assert_counts(lost=0)
