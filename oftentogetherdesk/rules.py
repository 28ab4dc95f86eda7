"""The rules: who has the first set mostly has the second one, too."""

from oftentogetherdesk.often import in_order

MOST_RULES = 65536


# The second set goes through all parts of both from the greatest number down, so the first,
# which is the rest of both, goes from the smallest number up, as the order asks.
def rules_that_make(supports, both, num, den):
    enough = den * supports[both]
    found = []
    second = both & (both - 1)
    while second > 0:
        first = both - second
        if enough >= num * supports[first]:
            found.append((first, second))
        second = (second - 1) & both
    return found


# With more than MOST_RULES it stops early: the caller then refuses, and needs no more of them.
def rules_among(supports, num, den):
    found = []
    for both in in_order(list(supports)):
        found.extend(rules_that_make(supports, both, num, den))
        if len(found) > MOST_RULES:
            break
    return found
