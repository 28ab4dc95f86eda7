"""Writes lines of calls and reads what is answered, for the tests."""

from oftentogetherdesk.desk import answers

ALL_THINGS = 18446744073709551615
MOST_BASKETS = 512
LOWEST = -2147483648
HIGHEST = 2147483647


def begin():
    return [0]


def basket(things):
    return [1, things]


def support(wanted):
    return [2, wanted]


def closure(wanted):
    return [3, wanted]


def sets(least, kind):
    return [4, least, kind]


def set_at(least, kind, k):
    return [5, least, kind, k]


def rules(least, num, den):
    return [6, least, num, den]


def rule(least, num, den, k):
    return [7, least, num, den, k]


def things(*numbers):
    return sum(1 << number for number in set(numbers))


def line(calls):
    return [number for call in calls for number in call]


def split(told):
    """The answers one by one, by the count ahead of each."""
    found = []
    at = 0
    while at < len(told):
        behind = at + 1 + told[at]
        if told[at] < 1 or behind > len(told):
            raise AssertionError(f"a wrong count at {at}: {told}")
        found.append(told[at + 1:behind])
        at = behind
    return found


def check_line(calls):
    """Fails where a test asks what the document says is never handed in."""
    asked = [call[0] for call in calls]
    together = 0
    for call in calls:
        if call[0] == 1:
            together |= call[1]
    fits = (1 <= len(calls) <= 600 and asked[0] == 0 and asked.count(4) + asked.count(5) <= 20
            and asked.count(6) + asked.count(7) <= 8 and together.bit_count() <= 12)
    if not fits:
        raise AssertionError("not a line")


def ask_outside_a_line(*calls):
    return split(answers(line(calls)))


def ask(*calls):
    check_line(calls)
    return ask_outside_a_line(*calls)


def ask_of(baskets, questions):
    """The answers to as many questions as one likes, each asked of the same baskets, in several lines."""
    told_ahead = [begin()] + [basket(one) for one in baskets]
    found = []
    for start in range(0, len(questions), 8):
        found += ask(*told_ahead, *questions[start:start + 8])[len(told_ahead):]
    return found


def drawn_baskets(how_many, start):
    """Baskets of 12 things in a row that is always the same, mostly large ones, few of them equal."""
    found = []
    drawn = start
    while len(found) < how_many:
        parts = []
        for turn in range(2):
            drawn = (drawn * 1103515245 + 12345) % 2147483648
            parts.append((drawn >> 9) % 4096)
        found.append(parts[0] | parts[1])
    return found
