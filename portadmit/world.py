"""What there is: the ports, the directory, the bag, the clock and the book."""

from portadmit.values import MOST_GROUP

# How a port stands.
DOWN = 0
ASKING = 1
LOOKING = 2
CHALLENGED = 3
CHECKING = 4
HELD = 5
AS_GUEST = 6
INSIDE = 7

# Messages are tuples that begin with one of these, in the form in which bag tells them:
# those up to COUNT go to the directory, the others to the switch.
HELLO = 0
ANSWER = 1
COUNT = 2
CHALLENGE = 3
YES = 4
NO = 5
OVER = 6
GOT = 7


class Stand:
    # Each change of how a port stands makes a new one, so nothing of an older attempt stays.
    def __init__(self, kind, due):
        self.kind = kind
        self.due = due
        self.left = 0
        self.n = 0
        self.who = 0
        self.host = 0
        self.challenge = 0
        self.x = 0
        self.first = 0


class Port:
    def __init__(self):
        self.stand = Stand(DOWN, 0)
        self.session = None
        self.guest = 0


class Session:
    def __init__(self, number, who, host, vlan, until, again):
        self.number = number
        self.who = who
        self.host = host
        self.vlan = vlan
        self.until = until
        self.again = again
        self.frames = 0


class Person:
    def __init__(self, secret, host):
        self.secret = secret
        self.host = host
        self.barred = 0
        self.groups = [0] * (MOST_GROUP + 1)
        self.wrong = 0
        self.locked = 0


class Rule:
    def __init__(self, row):
        self.group = row[0]
        self.low = row[1]
        self.high = row[2]
        self.since = row[3]
        self.till = row[4]
        self.vlan = row[5]
        self.length = row[6]
        self.again = row[7]


class Attempt:
    # What was decided is kept as the message that told it: it's sent once more as it was then.
    def __init__(self, port, who, host, challenge, forgotten):
        self.port = port
        self.who = who
        self.host = host
        self.challenge = challenge
        self.forgotten = forgotten
        self.decided = None


class Begun:
    def __init__(self, number, who, host, port, over):
        self.number = number
        self.who = who
        self.host = host
        self.port = port
        self.over = over


class World:
    def __init__(self, row):
        self.ports = [Port() for k in range(row[0])]
        self.bag_size = row[1]
        self.wait = row[2]
        self.tries = row[3]
        self.hold = row[4]
        self.most_wrong = row[5]
        self.lock = row[6]
        self.life = row[7]
        self.asks = row[8]
        self.most_records = row[9]
        self.now = 0
        self.book = 0
        self.lost = 0
        self.bag = []
        self.records = []
        self.persons = {}
        self.rules = []
        self.known = {}
        self.begun = []
        self.accounts = {}


def draw(world):
    world.book += 1
    return world.book


def send(world, message):
    if len(world.bag) < world.bag_size:
        world.bag.append(message)
    else:
        world.lost += 1
