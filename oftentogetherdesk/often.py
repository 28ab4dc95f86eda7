"""The sets of things that are often enough in one basket together, and their order."""

from oftentogetherdesk.measures import ALL_THINGS, support_of

MOST_SETS = 65536

# The kinds of sets; 0 is all those that have the support.
CLOSED = 1
GREATEST = 2


def how_many_things(things):
    found = 0
    rest = things
    while rest > 0:
        # One less turns the lowest thing's bit off and only bits below it on.
        rest = rest & (rest - 1)
        found = found + 1
    return found


def place_in_order(things):
    return (how_many_things(things), things)


def times_of_each(baskets):
    times = {}
    for basket in baskets:
        times[basket] = times.get(basket, 0) + 1
    return times


def often_things(baskets, least):
    found = []
    thing = 1
    while thing <= ALL_THINGS:
        if support_of(baskets, thing) >= least:
            found.append(thing)
        thing = thing * 2
    return found


# Gives back the support of each set that isn't empty and has at least the least.
# Thing by thing, each set so far is tried with this thing too: no set has more support than
# one that it has all of, so nothing is missed by leaving out those with too little.
# Equal baskets are looked at as one, as a line may tell the same basket many times.
# With more than MOST_SETS it stops early: the caller then refuses, and needs no more of them.
def often_sets(baskets, least):
    times = times_of_each(baskets)
    having = {0: list(times)}
    supports = {}
    for thing in often_things(baskets, least):
        for smaller in list(having):
            still = [basket for basket in having[smaller] if (basket & thing) != 0]
            support = sum([times[basket] for basket in still])
            if support >= least:
                having[smaller | thing] = still
                supports[smaller | thing] = support
        if len(supports) > MOST_SETS:
            break
    return supports


# Only sets that are larger by one thing are looked at: every larger one has all of such a one,
# and so no more support. A set that isn't among the supports counts as 0, for it has less
# than the least, and all that is asked here of a support is at least that.
def most_support_above(supports, singles, things):
    most = 0
    for thing in singles:
        if (things & thing) == 0:
            most = max(most, supports.get(things | thing, 0))
    return most


def sets_of_kind(supports, least, kind):
    if kind not in (CLOSED, GREATEST):
        return list(supports)
    singles = [things for things in supports if how_many_things(things) == 1]
    found = []
    for things in supports:
        bound = supports[things] if kind == CLOSED else least
        if most_support_above(supports, singles, things) < bound:
            found.append(things)
    return found


def in_order(found):
    return sorted(found, key=place_in_order)
