"""Lines of calls written out, and what they answer, a list for each call."""

from stormgate.polder import answers

LARGEST = 4294967295


def begins(stands, low, high, pumps, width, salt):
    return [0, stands, low, high, pumps, width, salt]


def hour(rain, sea, price):
    return [1, rain, sea, price]


def check(*doings):
    return [2, len(doings), *doings]


def best():
    return [3]


def shut():
    return [4]


def still():
    return [5]


def needs():
    return [6]


def told(*calls):
    """What each of the calls answers in one line of them all."""
    answered = answers([number for call in calls for number in call])
    parted = []
    at = 0
    while at < len(answered):
        behind = at + 1 + answered[at]
        parted.append(answered[at + 1:behind])
        at = behind
    assert at == len(answered) and len(parted) == len(calls)
    return parted


def last(*calls):
    """What the last of the calls answers."""
    return told(*calls)[-1]
