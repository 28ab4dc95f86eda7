"""The desk: a line of calls is handed in, what they answer is given back."""

from oftentogetherdesk.measures import closure_of, support_of
from oftentogetherdesk.often import MOST_SETS, in_order, often_sets, sets_of_kind
from oftentogetherdesk.rules import MOST_RULES, rules_among

BEGIN = 0
BASKET = 1
SUPPORT = 2
CLOSURE = 3
SETS = 4
SET_AT = 5
RULES = 6

# How many numbers stand behind each call's own number.
NUMBERS_BEHIND = {0: 0, 1: 1, 2: 1, 3: 1, 4: 2, 5: 3, 6: 3, 7: 4}

MOST_BASKETS = 512
MOST_LEAST = 512
LAST_KIND = 2
MOST_DEN = 1000000

OUTSIDE = -1
NOT_THERE = -1
NO_ROOM = -2
TOO_MANY = -2


def answer_begin(baskets):
    baskets.clear()
    return [0]


def answer_basket(baskets, things):
    number = len(baskets)
    if number >= MOST_BASKETS:
        return [NO_ROOM]
    baskets.append(things)
    return [number]


def answer_support(baskets, wanted):
    return [support_of(baskets, wanted)]


def answer_closure(baskets, wanted):
    closure = closure_of(baskets, wanted)
    # A written 1 or 0: the comparison itself would be True or False.
    closed = 1 if closure == wanted else 0
    return [closed, closure]


def is_within(number, lowest, highest):
    return lowest <= number and number <= highest


def may_ask_sets(least, kind):
    return is_within(least, 1, MOST_LEAST) and is_within(kind, 0, LAST_KIND)


def may_ask_rules(least, num, den):
    return is_within(least, 1, MOST_LEAST) and is_within(den, 1, MOST_DEN) and is_within(num, 0, den)


def answer_sets(baskets, least, kind):
    if not may_ask_sets(least, kind):
        return [OUTSIDE]
    supports = often_sets(baskets, least)
    if len(supports) > MOST_SETS:
        return [TOO_MANY]
    return [len(sets_of_kind(supports, least, kind))]


def answer_set(baskets, least, kind, k):
    if not may_ask_sets(least, kind):
        return [OUTSIDE]
    supports = often_sets(baskets, least)
    if len(supports) > MOST_SETS:
        return [TOO_MANY]
    found = in_order(sets_of_kind(supports, least, kind))
    if not is_within(k, 0, len(found) - 1):
        return [NOT_THERE]
    return [supports[found[k]], found[k]]


def answer_rules(baskets, least, num, den):
    if not may_ask_rules(least, num, den):
        return [OUTSIDE]
    supports = often_sets(baskets, least)
    if len(supports) > MOST_SETS:
        return [TOO_MANY]
    found = rules_among(supports, num, den)
    if len(found) > MOST_RULES:
        return [TOO_MANY]
    return [len(found)]


def answer_rule(baskets, least, num, den, k):
    if not may_ask_rules(least, num, den):
        return [OUTSIDE]
    supports = often_sets(baskets, least)
    if len(supports) > MOST_SETS:
        return [TOO_MANY]
    found = rules_among(supports, num, den)
    if len(found) > MOST_RULES:
        return [TOO_MANY]
    if not is_within(k, 0, len(found) - 1):
        return [NOT_THERE]
    first = found[k][0]
    second = found[k][1]
    return [supports[first | second], first, second, supports[first]]


def answer_call(baskets, call, numbers):
    if call == BEGIN:
        return answer_begin(baskets)
    if call == BASKET:
        return answer_basket(baskets, numbers[0])
    if call == SUPPORT:
        return answer_support(baskets, numbers[0])
    if call == CLOSURE:
        return answer_closure(baskets, numbers[0])
    if call == SETS:
        return answer_sets(baskets, numbers[0], numbers[1])
    if call == SET_AT:
        return answer_set(baskets, numbers[0], numbers[1], numbers[2])
    if call == RULES:
        return answer_rules(baskets, numbers[0], numbers[1], numbers[2])
    # Only rule is left.
    return answer_rule(baskets, numbers[0], numbers[1], numbers[2], numbers[3])


def answers(calls):
    baskets = []
    told = []
    at = 0
    while at < len(calls):
        behind = at + 1 + NUMBERS_BEHIND[calls[at]]
        answer = answer_call(baskets, calls[at], calls[at + 1:behind])
        told.append(len(answer))
        told.extend(answer)
        at = behind
    return told
