"""A slow reading of the document's words, for the tests to hold the program against."""

import functools

from lines import MOST_BASKETS


def parts_of(whole):
    """All sets that aren't empty and have only things of the whole."""
    part = whole
    while part > 0:
        yield part
        part = (part - 1) & whole


def place(one):
    return (one.bit_count(), one)


def together_of(baskets):
    together = 0
    for one in baskets:
        together |= one
    return together


def universe_of(baskets):
    """The things of all baskets, and one that is in none of them, which stands for all such things."""
    together = together_of(baskets)
    absent = [1 << thing for thing in range(64) if not together >> thing & 1]
    return together | absent[0]


@functools.lru_cache(maxsize=8)
def supports_of(baskets):
    return {one: sum(1 for basket in baskets if basket & one == one) for one in parts_of(universe_of(baskets))}


@functools.lru_cache(maxsize=256)
def sets_of(baskets, least, kind):
    supports = supports_of(baskets)
    universe = universe_of(baskets)
    found = []
    for one in supports:
        if supports[one] < least:
            continue
        larger = (one | more for more in parts_of(universe & ~one))
        if kind == 1 and not all(supports[other] < supports[one] for other in larger):
            continue
        if kind == 2 and not all(supports[other] < least for other in larger):
            continue
        found.append(one)
    return sorted(found, key=place)


@functools.lru_cache(maxsize=64)
def rules_of(baskets, least, num, den):
    supports = supports_of(baskets)
    together = together_of(baskets)
    found = []
    for first in parts_of(together):
        for second in parts_of(together & ~first):
            both = supports[first | second]
            if both >= least and den * both >= num * supports[first]:
                found.append((first, second))
        # So many are refused, whichever the others are.
        if len(found) > 65536:
            break
    return sorted(found, key=lambda one: (place(one[0] | one[1]), one[0]))


def read_sets(baskets, least, kind):
    if not 1 <= least <= 512 or not 0 <= kind <= 2:
        return [-1]
    if len(sets_of(baskets, least, 0)) > 65536:
        return [-2]
    return [len(sets_of(baskets, least, kind))]


def read_set(baskets, least, kind, k):
    counted = read_sets(baskets, least, kind)
    if counted[0] < 0:
        return counted
    if not 0 <= k < counted[0]:
        return [-1]
    one = sets_of(baskets, least, kind)[k]
    return [supports_of(baskets)[one], one]


def read_rules(baskets, least, num, den):
    if not 1 <= least <= 512 or not 1 <= den <= 1000000 or not 0 <= num <= den:
        return [-1]
    if len(sets_of(baskets, least, 0)) > 65536 or len(rules_of(baskets, least, num, den)) > 65536:
        return [-2]
    return [len(rules_of(baskets, least, num, den))]


def read_rule(baskets, least, num, den, k):
    counted = read_rules(baskets, least, num, den)
    if counted[0] < 0:
        return counted
    if not 0 <= k < counted[0]:
        return [-1]
    first, second = rules_of(baskets, least, num, den)[k]
    return [supports_of(baskets)[first | second], first, second, supports_of(baskets)[first]]


def read_support(baskets, wanted):
    return [sum(1 for basket in baskets if basket & wanted == wanted)]


def read_closure(baskets, wanted):
    having = [basket for basket in baskets if basket & wanted == wanted]
    whole = sum(1 << thing for thing in range(64) if all(basket >> thing & 1 for basket in having))
    return [int(whole == wanted), whole]


READ = {2: read_support, 3: read_closure, 4: read_sets, 5: read_set, 6: read_rules, 7: read_rule}


def expected(calls):
    baskets = ()
    told = []
    for call in calls:
        if call[0] == 0:
            baskets = ()
            told.append([0])
        elif call[0] == 1 and len(baskets) == MOST_BASKETS:
            told.append([-2])
        elif call[0] == 1:
            told.append([len(baskets)])
            baskets += (call[1],)
        else:
            told.append(READ[call[0]](baskets, *call[1:]))
    return told
