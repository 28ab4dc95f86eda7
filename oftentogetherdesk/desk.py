"""The desk: a line of calls is handed in, what they answer is given back."""

from oftentogetherdesk.measures import closure_of, support_of

BEGIN = 0
BASKET = 1
SUPPORT = 2
CLOSURE = 3

# How many numbers stand behind each call's own number.
NUMBERS_BEHIND = {0: 0, 1: 1, 2: 1, 3: 1}

MOST_BASKETS = 512
NO_ROOM = -2


def answer_begin(baskets):
    baskets.clear()
    return [0]


def answer_basket(baskets, things):
    number = len(baskets)
    if number >= MOST_BASKETS:
        return [NO_ROOM]
    baskets.append(things)
    return [number]


def answer_support(baskets, wanted):
    return [support_of(baskets, wanted)]


def answer_closure(baskets, wanted):
    closure = closure_of(baskets, wanted)
    # A written 1 or 0: the comparison itself would be True or False.
    closed = 1 if closure == wanted else 0
    return [closed, closure]


def answer_call(baskets, call, numbers):
    if call == BEGIN:
        return answer_begin(baskets)
    if call == BASKET:
        return answer_basket(baskets, numbers[0])
    if call == SUPPORT:
        return answer_support(baskets, numbers[0])
    return answer_closure(baskets, numbers[0])


def answers(calls):
    baskets = []
    told = []
    at = 0
    while at < len(calls):
        behind = at + 1 + NUMBERS_BEHIND[calls[at]]
        answer = answer_call(baskets, calls[at], calls[at + 1:behind])
        told.append(len(answer))
        told.extend(answer)
        at = behind
    return told
