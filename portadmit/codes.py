"""The numbers of the calls, and how many whole numbers stand behind each."""

BEGIN = 0
PERSON = 1
UNPERSON = 2
SECRET = 3
MEMBER = 4
RULE = 5
NORULES = 6
BAR = 7
GUEST = 8
PLUG = 9
UNPLUG = 10
SAY = 11
REPLY = 12
BYE = 13
FRAME = 14
TICK = 15
REPORT = 16
DELIVER = 17
LOSE = 18
DOUBLE = 19
RESTART = 20
REBOOT = 21
KEYED = 22
PORT = 23
BAG = 24
ACCOUNT = 25
WHOIS = 26
COUNTS = 27

# By the call's number, from begin (0) to counts (27): a list is cut into calls
# by these even where a call is only answered with -20.
SIZES = (
    10, 3, 1, 2, 3, 8, 0, 2, 2, 1, 1, 3, 3, 2,
    3, 1, 0, 1, 1, 1, 0, 0, 2, 1, 0, 1, 1, 0,
)
