"""What the tests share: building lists of calls, reading answers, looking inside."""

import unittest

from portadmit.ports import act, answers
from portadmit.world import Begun, Session, Stand, World

LEAST = -2**63
MOST = 2**63 - 1

BEGIN, PERSON, UNPERSON, SECRET, MEMBER, RULE, NORULES, BAR = range(8)
GUEST, PLUG, UNPLUG, SAY, REPLY, BYE = range(8, 14)
FRAME, TICK, REPORT, DELIVER, LOSE, DOUBLE, RESTART, REBOOT = range(14, 22)
KEYED, PORT, BAG, ACCOUNT, WHOIS, COUNTS = range(22, 28)

# How port numbers the ways in which a port stands, and bag the messages.
DOWN, ASKING, LOOKING, CHALLENGED, CHECKING, HELD, AS_GUEST, INSIDE = range(8)
HELLO, ANSWER, COUNT, CHALLENGE, YES, NO, OVER, GOT = range(8)

# wait 5, tries 2, hold 30, wrong 3, lock 60, life 100, asks 4, records 8
TEN = (2, 9, 5, 2, 30, 3, 60, 100, 4, 8)
START = (BEGIN,) + TEN


NAMES = ("ports", "bag", "wait", "tries", "hold", "wrong", "lock", "life", "asks", "records")
COUNTED = (
    "now", "book", "lost", "sessions", "records", "persons", "rules", "known", "begun",
)


def keyed_sum(secret, challenge):
    """As the document tells it, written here once more so that the program isn't its own measure."""
    x = (secret + challenge) % (2**61 - 1)
    for i in (1, 2, 3, 4):
        x = (x**2 + i * challenge + secret) % (2**61 - 1)
    return x


def flat(calls):
    return [number for call in calls for number in call]


def cut(told):
    """The answers of a flat list, each as a list of its own."""
    rows = []
    place = 0
    while place < len(told):
        size = told[place]
        rows.append(told[place + 1:place + 1 + size])
        if size < 1 or len(rows[-1]) != size:
            raise ValueError(f"answers are cut wrongly at {place}: {told!r}")
        place += 1 + size
    return rows


def run(*calls):
    return cut(answers(flat(calls)))


def last(*calls):
    """The last call's answer, after begin and the calls before it."""
    rows = run(START, *calls)
    return rows[-1]


def outside(least, most):
    return (least - 1, most + 1, LEAST, MOST)


def picture(thing):
    """All that an object holds, as plain values that can be compared."""
    if isinstance(thing, (list, tuple)):
        return [picture(part) for part in thing]
    if isinstance(thing, dict):
        return {key: picture(part) for key, part in thing.items()}
    if hasattr(thing, "__dict__"):
        return picture(vars(thing))
    return thing


def stand(kind, due=0, **values):
    """All that a port's stand holds, as picture tells it: what isn't named is 0."""
    wanted = {"kind": kind, "due": due}
    for name in ("left", "n", "who", "host", "challenge", "x", "first"):
        wanted[name] = values.pop(name, 0)
    if values:
        raise ValueError(f"no values of a stand: {values!r}")
    return wanted


def made_stand(wanted):
    made = Stand(0, 0)
    for name, value in wanted.items():
        setattr(made, name, value)
    return made


class Bench(unittest.TestCase):
    """Tests on a world that can be looked into and set up by hand."""

    def setUp(self):
        self.world = World(list(TEN))

    def ask(self, *call):
        return act(self.world, call[0], list(call[1:]))

    def done(self, *call):
        self.assertEqual(self.ask(*call), [0], call)

    def refused(self, refusal, *call):
        before = picture(self.world)
        self.assertEqual(self.ask(*call), [refusal], call)
        self.assertEqual(picture(self.world), before, call)

    def put_session(self, port, number, host, who=7, frames=0):
        session = Session(number, who, host, 20, 600, 300)
        session.frames = frames
        self.world.ports[port].session = session
        return session

    def put_begun(self, *pairs):
        for number, who in pairs:
            self.world.begun.append(Begun(number, who, 100, 0, 600))

    def assert_stand(self, port, wanted):
        self.assertEqual(picture(self.world.ports[port].stand), wanted)


class Hall(Bench):
    """Tests by calls alone: the time is 1000; persons 7 and 8 may come in at every port by one rule."""

    RULED = (1, 0, 63, 0, 86399, 20, 600, 300)
    # Each person's secret, each host's person.
    SECRETS = {7: 11, 8: 12}
    HOSTS = {100: 7, 102: 8}

    def setUp(self):
        self.start()

    def start(self, **changed):
        told = dict(zip(NAMES, (3, 20) + TEN[2:]))
        told.update(changed)
        self.world = World([told[name] for name in NAMES])
        for host, who in self.HOSTS.items():
            self.done(PERSON, who, self.SECRETS[who], host)
            self.done(MEMBER, who, 1, 1)
        self.done(RULE, *self.RULED)
        self.done(TICK, 1000)

    def told(self, *call):
        answer = self.ask(*call)
        self.assertEqual(answer[0], 0, call)
        return answer[1:]

    def bag(self):
        return picture(self.world.bag)

    def assert_port(self, port, *numbers):
        self.assertEqual(self.ask(PORT, port), [0, *numbers])

    def assert_bag(self, *messages):
        self.assertEqual(self.ask(BAG), [0, len(messages), *flat(messages)])

    def assert_counts(self, **wanted):
        seen = dict(zip(COUNTED, self.told(COUNTS), strict=True))
        self.assertEqual({name: seen[name] for name in wanted}, wanted)

    def assert_unchanged(self, before):
        self.assertEqual(picture(self.world), before)

    def empty_bag(self):
        while self.world.bag:
            self.done(LOSE, 0)

    def deliver_all(self):
        while self.world.bag:
            self.done(DELIVER, 0)

    def fill_bag(self):
        """Fills the bag with messages that do nothing where they come."""
        while len(self.world.bag) < self.world.bag_size:
            self.world.bag.append((OVER, 2**60))

    def say(self, port, host=100):
        """The port is looking; its hello is the last message of the bag. Tells its place."""
        if self.ask(PORT, port)[1] == DOWN:
            self.done(PLUG, port)
        self.done(SAY, port, host, self.HOSTS[host])
        return len(self.world.bag) - 1

    def challenge(self, port, host=100):
        """The port is challenged. Tells n and the challenge."""
        place = self.say(port, host)
        self.done(DELIVER, place)
        self.done(DELIVER, place)
        told = self.told(PORT, port)
        self.assertEqual(told[0], CHALLENGED)
        return told[1], told[4]

    def reply(self, port, host=100):
        """The port is checking a good answer, the last message of the bag. Tells its place."""
        challenge = self.challenge(port, host)[1]
        self.done(REPLY, port, host, keyed_sum(self.SECRETS[self.HOSTS[host]], challenge))
        return len(self.world.bag) - 1

    def decide(self, port, host=100):
        """The directory has decided on a good answer and the port does not know it yet. Tells the place of that."""
        place = self.reply(port, host)
        self.done(DELIVER, place)
        return place

    def admit(self, port, host=100):
        """The host is admitted at the port. Tells its session's number."""
        self.done(DELIVER, self.decide(port, host))
        told = self.told(PORT, port)
        self.assertEqual(told[:2], [INSIDE, 1])
        return told[2]

    def stand_with(self, kind, port=0, session=False):
        """Has the port stand that way, by calls alone, with a session of the host 100 or with none."""
        if session:
            self.admit(port)
            if kind == ASKING:
                self.wait_to_ask(port)
        elif kind in (HELD, AS_GUEST):
            self.done(GUEST, port, 9 if kind == AS_GUEST else 0)
            self.done(PLUG, port)
            self.done(TICK, 5)
            self.done(TICK, 5)
        elif kind == ASKING:
            self.done(PLUG, port)
        ways = {LOOKING: self.say, CHALLENGED: self.challenge, CHECKING: self.reply}
        if kind in ways:
            ways[kind](port)
        self.empty_bag()
        self.assertEqual(self.told(PORT, port)[0], kind)

    def wait_to_ask(self, port):
        self.done(TICK, 300)
        self.assertEqual(self.told(PORT, port)[0], ASKING)
