"""The ranges in which the values of the calls lie, and the keyed sum."""

MOST_HOST = 281474976710655
HOST_STEP = 1099511627776
MOST_WHO = 4294967295
MOST_SECRET = 2305843009213693950
MOST_REPLY = 4611686018427387904
MOST_VLAN = 4094
MOST_GROUP = 63
MOST_CHALLENGE = 4611686018427387904
MOST_NOW = 4611686018427387904
MOST_FRAMES = 1000000
DAY = 86400
SUM_MODULUS = 2305843009213693951


def within(x, least, most):
    return least <= x <= most


def all_within(row, ranges):
    for x, ends in zip(row, ranges):
        if not within(x, ends[0], ends[1]):
            return False
    return True


def is_host(x):
    # An odd first byte is no single host's number.
    return within(x, 1, MOST_HOST) and x // HOST_STEP % 2 == 0


def is_who(x):
    return within(x, 0, MOST_WHO)


def is_secret(x):
    return within(x, 0, MOST_SECRET)


def is_group(x):
    return within(x, 0, MOST_GROUP)


def is_choice(x):
    return within(x, 0, 1)


def keyed_sum(secret, challenge):
    x = (secret + challenge) % SUM_MODULUS
    for k in range(1, 5):
        x = (x * x + k * challenge + secret) % SUM_MODULUS
    return x
