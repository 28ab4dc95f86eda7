"""What the baskets say of one set of things."""

ALL_THINGS = 18446744073709551615


def has_all(basket, wanted):
    return (basket & wanted) == wanted


def support_of(baskets, wanted):
    found = 0
    for basket in baskets:
        if has_all(basket, wanted):
            found = found + 1
    return found


# Starting from all things gives all 64 of them where no basket has the set.
def closure_of(baskets, wanted):
    shared = ALL_THINGS
    for basket in baskets:
        if has_all(basket, wanted):
            shared = shared & basket
    return shared
