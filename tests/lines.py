"""Writes lines of calls and reads what is answered, for the tests."""

from oftentogetherdesk.desk import answers

ALL_THINGS = 18446744073709551615
MOST_BASKETS = 512


def begin():
    return [0]


def basket(things):
    return [1, things]


def support(wanted):
    return [2, wanted]


def closure(wanted):
    return [3, wanted]


def things(*numbers):
    return sum(1 << number for number in set(numbers))


def line(calls):
    return [number for call in calls for number in call]


def split(told):
    """The answers one by one, by the count ahead of each."""
    found = []
    at = 0
    while at < len(told):
        behind = at + 1 + told[at]
        if told[at] < 1 or behind > len(told):
            raise AssertionError(f"a wrong count at {at}: {told}")
        found.append(told[at + 1:behind])
        at = behind
    return found


def ask(*calls):
    return split(answers(line(calls)))
