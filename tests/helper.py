"""What the tests share: building lists of calls, reading answers, looking inside."""

import unittest

from portadmit.ports import act, answers
from portadmit.world import Begun, Session, Stand, World

LEAST = -2**63
MOST = 2**63 - 1

BEGIN, PERSON, UNPERSON, SECRET, MEMBER, RULE, NORULES, BAR = range(8)
GUEST, PLUG, UNPLUG, SAY, REPLY, BYE = range(8, 14)

# wait 5, tries 2, hold 30, wrong 3, lock 60, life 100, asks 4, records 8
TEN = (2, 9, 5, 2, 30, 3, 60, 100, 4, 8)
START = (BEGIN,) + TEN


def flat(calls):
    return [number for call in calls for number in call]


def cut(told):
    """The answers of a flat list, each as a list of its own."""
    rows = []
    place = 0
    while place < len(told):
        size = told[place]
        rows.append(told[place + 1:place + 1 + size])
        if size < 1 or len(rows[-1]) != size:
            raise ValueError(f"answers are cut wrongly at {place}: {told!r}")
        place += 1 + size
    return rows


def run(*calls):
    return cut(answers(flat(calls)))


def last(*calls):
    """The last call's answer, after begin and the calls before it."""
    rows = run(START, *calls)
    return rows[-1]


def outside(least, most):
    return (least - 1, most + 1, LEAST, MOST)


def picture(thing):
    """All that an object holds, as plain values that can be compared."""
    if isinstance(thing, (list, tuple)):
        return [picture(part) for part in thing]
    if isinstance(thing, dict):
        return {key: picture(part) for key, part in thing.items()}
    if hasattr(thing, "__dict__"):
        return picture(vars(thing))
    return thing


def stand(kind, due=0, **values):
    """All that a port's stand holds, as picture tells it: what isn't named is 0."""
    wanted = {"kind": kind, "due": due}
    for name in ("left", "n", "who", "host", "challenge", "x", "first"):
        wanted[name] = values.pop(name, 0)
    if values:
        raise ValueError(f"no values of a stand: {values!r}")
    return wanted


def made_stand(wanted):
    made = Stand(0, 0)
    for name, value in wanted.items():
        setattr(made, name, value)
    return made


class Bench(unittest.TestCase):
    """Tests on a world that can be looked into and set up by hand."""

    def setUp(self):
        self.world = World(list(TEN))

    def ask(self, *call):
        return act(self.world, call[0], list(call[1:]))

    def done(self, *call):
        self.assertEqual(self.ask(*call), [0], call)

    def refused(self, refusal, *call):
        before = picture(self.world)
        self.assertEqual(self.ask(*call), [refusal], call)
        self.assertEqual(picture(self.world), before, call)

    def put_session(self, port, number, host, who=7, frames=0):
        session = Session(number, who, host, 20, 600, 300)
        session.frames = frames
        self.world.ports[port].session = session
        return session

    def put_begun(self, *pairs):
        for number, who in pairs:
            self.world.begun.append(Begun(number, who, 100, 0, 600))

    def assert_stand(self, port, wanted):
        self.assertEqual(picture(self.world.ports[port].stand), wanted)
