"""Calls 8 to 13: guest, plug, unplug, say, reply, bye."""

import unittest

from portadmit.world import (
    ANSWER, AS_GUEST, ASKING, CHALLENGED, CHECKING, DOWN, HELD, HELLO, INSIDE, LOOKING, Session,
    World,
)
from tests.helper import (
    BYE, Bench, GUEST, LEAST, MOST, PLUG, REPLY, SAY, START, TEN, UNPLUG, last, made_stand,
    outside, picture, run, stand,
)

MOST_WHO = 4294967295
MOST_HOST = 2**48 - 1
LAST_EVEN_HOST = 255 * 2**40 - 1
GOOD_HOSTS = (1, 2, 2**40 - 1, 2 * 2**40, 3 * 2**40 - 1, LAST_EVEN_HOST)
NO_HOSTS = outside(1, MOST_HOST) + (2**40, 2 * 2**40 - 1, 255 * 2**40, MOST_HOST)
KINDS = (DOWN, ASKING, LOOKING, CHALLENGED, CHECKING, HELD, AS_GUEST, INSIDE)

# now is 1000 on the benches below: wait 5 and tries 2 as begin told them.
ANEW = stand(ASKING, 1005, left=1)
ASKED = dict(n=41, who=7, host=100, challenge=42)


class SwitchBench(Bench):
    def setUp(self):
        super().setUp()
        self.world.now = 1000
        self.world.book = 50

    def put(self, port, kind, **values):
        self.world.ports[port].stand = made_stand(stand(kind, 2000, **values))


class NumbersTest(unittest.TestCase):
    def test_kinds_are_numbered_as_the_document_does(self):
        self.assertEqual(KINDS, tuple(range(8)))
        self.assertEqual((HELLO, ANSWER), (0, 1))

    def test_a_session_holds_what_it_is_given(self):
        self.assertEqual(picture(Session(1, 2, 3, 4, 5, 6)), {
            "number": 1, "who": 2, "host": 3, "vlan": 4, "until": 5, "again": 6, "frames": 0,
        })


class NoPortTest(SwitchBench):
    def test_no_port(self):
        for port in (2, -1, LEAST, MOST):
            self.refused(-1, GUEST, port, 5)
            self.refused(-1, PLUG, port)
            self.refused(-1, UNPLUG, port)
            self.refused(-1, SAY, port, 100, 7)
            self.refused(-1, REPLY, port, 100, 1)
            self.refused(-1, BYE, port, 100)

    def test_told_first(self):
        self.refused(-1, GUEST, 2, 4095)
        self.refused(-1, SAY, 2, 0, 7)
        self.refused(-1, REPLY, 2, 0, 1)
        self.refused(-1, BYE, 2, 0)

    def test_first_and_last_port_of_64(self):
        ten = (64,) + TEN[1:]
        for port, answer in ((0, [0]), (63, [0]), (64, [-1])):
            for call in ((PLUG, port), (GUEST, port, 5)):
                self.assertEqual(run((0,) + ten, call)[-1], answer)


class GuestTest(SwitchBench):
    def test_edges(self):
        for vlan in (0, 1, 4093, 4094):
            self.done(GUEST, 1, vlan)
            self.assertEqual([port.guest for port in self.world.ports], [0, vlan])
        for vlan in outside(0, 4094):
            self.refused(-2, GUEST, 1, vlan)

    def test_0_at_a_port_that_is_guest(self):
        self.put(0, AS_GUEST)
        self.world.ports[0].guest = 9
        self.done(GUEST, 0, 0)
        self.assert_stand(0, ANEW)
        self.assertEqual(self.world.ports[0].guest, 0)

    def test_another_vlan_at_a_port_that_is_guest(self):
        self.put(0, AS_GUEST)
        self.done(GUEST, 0, 9)
        self.assert_stand(0, stand(AS_GUEST, 2000))

    def test_0_at_a_port_that_is_not_guest(self):
        for kind in KINDS:
            if kind != AS_GUEST:
                self.put(0, kind, **ASKED)
                self.done(GUEST, 0, 0)
                self.assert_stand(0, stand(kind, 2000, **ASKED))


class PlugTest(SwitchBench):
    def test_ordinary(self):
        self.done(PLUG, 1)
        self.assert_stand(1, ANEW)
        self.assert_stand(0, stand(DOWN))
        self.assertEqual(self.world.bag, [])

    def test_tries_at_the_edges(self):
        for tries in (1, 10):
            ten = TEN[:3] + (tries,) + TEN[4:]
            self.world = World(list(ten))
            self.done(PLUG, 0)
            self.assert_stand(0, stand(ASKING, 5, left=tries - 1))

    def test_not_down(self):
        for kind in KINDS[1:]:
            self.put(0, kind)
            self.refused(-2, PLUG, 0)

    def test_in_a_list(self):
        rows = run(START, (PLUG, 0), (PLUG, 0), (PLUG, 1), (UNPLUG, 0), (PLUG, 0))
        self.assertEqual(rows, [[0], [0], [-2], [0], [0], [0]])


class UnplugTest(SwitchBench):
    def test_however_it_stands(self):
        for kind in KINDS[1:]:
            self.put(0, kind, **ASKED)
            self.done(UNPLUG, 0)
            self.assert_stand(0, stand(DOWN))
        self.assertEqual(self.world.records, [])

    def test_down(self):
        self.refused(-2, UNPLUG, 0)

    def test_its_session_ends(self):
        self.world.records.append((1, 2))
        self.put(0, INSIDE)
        self.put_session(0, 33, 100, frames=12)
        self.put_session(1, 34, 102)
        self.done(UNPLUG, 0)
        self.assertEqual(self.world.records, [(1, 2), (33, 12)])
        self.assertIsNone(self.world.ports[0].session)
        self.assertIsNotNone(self.world.ports[1].session)

    def test_guest_vlan_and_bag_stay(self):
        self.done(GUEST, 0, 9)
        self.done(PLUG, 0)
        self.done(SAY, 0, 100, 7)
        self.done(UNPLUG, 0)
        self.assertEqual(self.world.ports[0].guest, 9)
        self.assertEqual(self.world.bag, [(HELLO, 0, 51, 7, 100)])

    def test_in_a_list(self):
        rows = run(START, (UNPLUG, 0), (PLUG, 0), (UNPLUG, 0), (UNPLUG, 0))
        self.assertEqual(rows, [[0], [-2], [0], [0], [-2]])


class SayTest(SwitchBench):
    looking = stand(LOOKING, 1005, left=1, n=51, who=7, host=100)

    def test_asking(self):
        self.done(PLUG, 1)
        self.done(SAY, 1, 100, 7)
        self.assert_stand(1, self.looking)
        self.assertEqual(self.world.book, 51)
        self.assertEqual(self.world.bag, [(HELLO, 1, 51, 7, 100)])

    def test_guest(self):
        self.put(0, AS_GUEST)
        self.done(SAY, 0, 100, 7)
        self.assert_stand(0, self.looking)

    def test_session_of_the_same_host_stays(self):
        for kind in (INSIDE, ASKING):
            self.setUp()
            self.put(0, kind)
            session = self.put_session(0, 33, 100, who=8, frames=4)
            before = picture(session)
            self.done(SAY, 0, 100, 7)
            self.assert_stand(0, self.looking)
            self.assertEqual(picture(self.world.ports[0].session), before)
            self.assertEqual(self.world.records, [])

    def test_session_of_another_host(self):
        for kind in (INSIDE, ASKING):
            self.put(0, kind)
            self.put_session(0, 33, 102)
            self.refused(-6, SAY, 0, 100, 7)

    def test_down_held_and_under_way(self):
        for kind, refusal in ((DOWN, -3), (HELD, -4), (LOOKING, -5), (CHALLENGED, -5), (CHECKING, -5)):
            self.put(0, kind, **ASKED)
            self.refused(refusal, SAY, 0, 100, 7)

    def test_under_way_is_told_before_another_host(self):
        self.put_session(0, 33, 102)
        for kind in (LOOKING, CHALLENGED, CHECKING):
            self.put(0, kind, **ASKED)
            self.refused(-5, SAY, 0, 100, 7)

    def test_hosts(self):
        for host in GOOD_HOSTS:
            self.assertEqual(last((PLUG, 0), (SAY, 0, host, 7)), [0])
        self.done(PLUG, 0)
        for host in NO_HOSTS:
            self.refused(-2, SAY, 0, host, 7)

    def test_ids(self):
        for who in (0, 1, MOST_WHO - 1, MOST_WHO):
            self.assertEqual(last((PLUG, 0), (SAY, 0, 100, who)), [0])
        self.done(PLUG, 0)
        for who in outside(0, MOST_WHO):
            self.refused(-2, SAY, 0, 100, who)

    def test_ranges_are_told_before_how_it_stands(self):
        self.put_session(1, 33, 102)
        for kind in KINDS:
            self.put(1, kind)
            self.refused(-2, SAY, 1, 0, 7)
            self.refused(-2, SAY, 1, 100, -1)

    def test_numbers_are_drawn_one_by_one(self):
        for port in (1, 0):
            self.done(PLUG, port)
            self.done(SAY, port, 100, 7)
        self.assertEqual(self.world.bag, [(HELLO, 1, 51, 7, 100), (HELLO, 0, 52, 7, 100)])

    def test_a_full_bag_loses(self):
        for k in range(TEN[1] + 2):
            self.done(PLUG, 0)
            self.done(SAY, 0, 100, 7)
            self.done(UNPLUG, 0)
        self.assertEqual([message[2] for message in self.world.bag], list(range(51, 51 + TEN[1])))
        self.assertEqual(self.world.lost, 2)
        self.assertEqual(self.world.book, 61)

    def test_a_bag_of_one_and_a_bag_of_1024(self):
        for size in (1, 1024):
            self.world = World([1, size] + list(TEN[2:]))
            for k in range(size + 1):
                self.done(PLUG, 0)
                self.done(SAY, 0, 100, 7)
                self.done(UNPLUG, 0)
            self.assertEqual((len(self.world.bag), self.world.lost), (size, 1))

    def test_in_a_list(self):
        rows = run(
            START, (SAY, 0, 100, 7), (PLUG, 0), (SAY, 0, 0, 7), (SAY, 0, 100, 7), (SAY, 0, 100, 7),
            (SAY, 0, 100, -1), (SAY, 2, 100, 7),
        )
        self.assertEqual(rows, [[0], [-3], [0], [-2], [0], [-5], [-2], [-1]])


class ReplyTest(SwitchBench):
    def test_ordinary(self):
        self.put(1, CHALLENGED, **ASKED)
        self.done(REPLY, 1, 100, 77)
        self.assert_stand(1, stand(CHECKING, 1005, left=1, x=77, first=1000, **ASKED))
        self.assertEqual(self.world.bag, [(ANSWER, 41, 42, 77)])
        self.assertEqual(self.world.book, 50)

    def test_its_session_stays(self):
        self.put(0, CHALLENGED, **ASKED)
        before = picture(self.put_session(0, 33, 100))
        self.done(REPLY, 0, 100, 77)
        self.assertEqual(picture(self.world.ports[0].session), before)

    def test_answers_at_the_edges(self):
        for x in (0, 1, 2**62 - 1, 2**62):
            self.put(0, CHALLENGED, **ASKED)
            self.done(REPLY, 0, 100, x)
            self.assertEqual(self.world.bag[-1], (ANSWER, 41, 42, x))
        self.put(0, CHALLENGED, **ASKED)
        for x in outside(0, 2**62):
            self.refused(-2, REPLY, 0, 100, x)

    def test_hosts(self):
        for host in GOOD_HOSTS:
            self.put(0, CHALLENGED, n=41, who=7, host=host, challenge=42)
            self.done(REPLY, 0, host, 1)
        self.put(0, CHALLENGED, **ASKED)
        for host in NO_HOSTS:
            self.refused(-2, REPLY, 0, host, 1)

    def test_not_challenged(self):
        for kind in KINDS:
            if kind != CHALLENGED:
                self.put(0, kind, **ASKED)
                self.refused(-3, REPLY, 0, 100, 1)

    def test_another_host(self):
        self.put(0, CHALLENGED, **ASKED)
        self.refused(-4, REPLY, 0, 102, 1)
        self.put_session(0, 33, 102)
        self.refused(-4, REPLY, 0, 102, 1)

    def test_told_first(self):
        self.refused(-2, REPLY, 0, 0, 1)
        self.refused(-2, REPLY, 0, 100, -1)
        self.put(0, LOOKING, **ASKED)
        self.refused(-3, REPLY, 0, 102, 1)
        self.put(0, CHALLENGED, **ASKED)
        self.refused(-2, REPLY, 0, 102, -1)

    def test_a_full_bag_loses(self):
        self.world.bag = [(6, 1)] * TEN[1]
        self.put(0, CHALLENGED, **ASKED)
        self.done(REPLY, 0, 100, 77)
        self.assertEqual(self.world.bag, [(6, 1)] * TEN[1])
        self.assertEqual(self.world.lost, 1)

    def test_in_a_list(self):
        rows = run(
            START, (REPLY, 0, 100, 1), (PLUG, 0), (REPLY, 0, 100, 1), (SAY, 0, 100, 7),
            (REPLY, 0, 100, 1), (REPLY, 0, 102, 1), (REPLY, 0, 100, 2**62 + 1), (REPLY, 0, 2**40, 1),
        )
        self.assertEqual(rows, [[0], [-3], [0], [-3], [0], [-3], [-3], [-2], [-2]])


class ByeTest(SwitchBench):
    def test_whatever_it_was(self):
        for kind in (ASKING, LOOKING, CHALLENGED, CHECKING, INSIDE):
            self.setUp()
            self.world.records.append((1, 2))
            self.put(0, kind, **ASKED)
            self.put_session(0, 33, 100, frames=12)
            self.put_session(1, 34, 100)
            self.done(BYE, 0, 100)
            self.assert_stand(0, ANEW)
            self.assertIsNone(self.world.ports[0].session)
            self.assertIsNotNone(self.world.ports[1].session)
            self.assertEqual(self.world.records, [(1, 2), (33, 12)])
            self.assertEqual(self.world.bag, [])

    def test_no_session(self):
        for kind in KINDS:
            self.put(0, kind, **ASKED)
            for host in (100, 0, LEAST, MOST):
                self.refused(-2, BYE, 0, host)

    def test_session_of_another_host(self):
        self.put(0, INSIDE)
        self.put_session(0, 33, 100)
        for host in (99, 101) + NO_HOSTS:
            self.refused(-2, BYE, 0, host)

    def test_the_host_of_the_attempt_does_not_count(self):
        self.put(0, CHECKING, **ASKED)
        self.put_session(0, 33, 102)
        self.refused(-2, BYE, 0, 100)

    def test_in_a_list(self):
        rows = run(START, (BYE, 0, 100), (PLUG, 0), (SAY, 0, 100, 7), (BYE, 0, 100), (BYE, 2, 100))
        self.assertEqual(rows, [[0], [-2], [0], [0], [-2], [-1]])


if __name__ == "__main__":
    unittest.main()
