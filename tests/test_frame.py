"""Call 14: frame."""

from tests.helper import (
    AS_GUEST, ASKING, CHALLENGED, CHECKING, FRAME, GUEST, HELD, INSIDE, LEAST, LOOKING, MOST, PLUG,
    PORT, START, Hall, outside, run,
)

MOST_HOST = 2**48 - 1
NO_HOSTS = outside(1, MOST_HOST) + (2**40, 2 * 2**40 - 1, 255 * 2**40, MOST_HOST)


class SessionTest(Hall):
    def frames(self, port):
        return self.told(PORT, port)[-2]

    def test_frames_pass_and_are_counted(self):
        self.admit(0)
        self.assertEqual(self.frames(0), 0)
        for k, sum_of_all in ((5, 5), (1, 6), (1000000, 1000006)):
            self.assertEqual(self.ask(FRAME, 0, 100, k), [0, 20])
            self.assertEqual(self.frames(0), sum_of_all)

    def test_only_that_session_counts(self):
        self.admit(0)
        self.admit(1, 102)
        self.assertEqual(self.ask(FRAME, 1, 102, 7), [0, 20])
        self.assertEqual((self.frames(0), self.frames(1)), (0, 7))

    def test_however_the_port_stands(self):
        for kind in (ASKING, LOOKING, CHALLENGED, CHECKING, INSIDE):
            self.start()
            self.stand_with(kind, session=True)
            self.assertEqual(self.ask(FRAME, 0, 100, 3), [0, 20], kind)
            self.assertEqual(self.frames(0), 3)
            self.refused(-5, FRAME, 0, 102, 3)

    def test_the_vlan_of_the_session_and_not_the_guests(self):
        self.done(GUEST, 0, 9)
        self.admit(0)
        self.assertEqual(self.ask(FRAME, 0, 100, 1), [0, 20])

    def test_another_host(self):
        self.admit(0)
        for host in (99, 101, 102):
            self.refused(-5, FRAME, 0, host, 1)


class NoSessionTest(Hall):
    def test_down(self):
        self.refused(-3, FRAME, 0, 100, 1)
        self.done(GUEST, 0, 9)
        self.refused(-3, FRAME, 0, 100, 1)

    def test_guest(self):
        self.stand_with(AS_GUEST)
        before = self.ask(PORT, 0)
        for host in (100, 102, 1):
            self.assertEqual(self.ask(FRAME, 0, host, 4), [0, 9])
        self.done(GUEST, 0, 4094)
        self.assertEqual(self.ask(FRAME, 0, 100, 4), [0, 4094])
        self.done(GUEST, 0, 9)
        self.assertEqual(self.ask(PORT, 0), before)

    def test_else(self):
        for kind in (ASKING, LOOKING, CHALLENGED, CHECKING, HELD):
            self.start()
            self.stand_with(kind)
            self.refused(-4, FRAME, 0, 100, 1)
            self.done(GUEST, 0, 9)
            self.refused(-4, FRAME, 0, 100, 1)


class RangeTest(Hall):
    def test_no_port(self):
        for port in (3, -1, LEAST, MOST):
            self.refused(-1, FRAME, port, 100, 1)
            self.refused(-1, FRAME, port, 0, 0)

    def test_hosts(self):
        self.stand_with(AS_GUEST)
        for host in (1, 2**40 - 1, 2 * 2**40, 255 * 2**40 - 1):
            self.assertEqual(self.ask(FRAME, 0, host, 1), [0, 9])
        for host in NO_HOSTS:
            self.refused(-2, FRAME, 0, host, 1)

    def test_how_many(self):
        self.stand_with(AS_GUEST)
        for k in (1, 2, 999999, 1000000):
            self.assertEqual(self.ask(FRAME, 0, 100, k), [0, 9])
        for k in outside(1, 1000000):
            self.refused(-2, FRAME, 0, 100, k)

    def test_ranges_are_told_before_how_it_stands(self):
        self.admit(0)
        self.done(PLUG, 1)
        for port in (0, 1, 2):
            self.refused(-2, FRAME, port, 0, 1)
            self.refused(-2, FRAME, port, 102, 0)
            self.refused(-2, FRAME, port, 102, 1000001)

    def test_in_a_list(self):
        rows = run(START, (FRAME, 2, 0, 0), (FRAME, 0, 0, 1), (FRAME, 0, 100, 1), (PLUG, 0), (FRAME, 0, 100, 1))
        self.assertEqual(rows, [[0], [-1], [-2], [-3], [0], [-4]])
