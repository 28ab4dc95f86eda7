"""Points 5 and 6: sets and set."""

import unittest

from lines import (HIGHEST, LOWEST, MOST_BASKETS, ask, ask_of, ask_outside_a_line, basket, begin, closure,
                   drawn_baskets, rules, set_at, sets, support, things)
from reading import read_set, read_sets

# Supports: {0} 4, {1} 3, {2} 3, {3} 1, {0,1} 3, {0,2} 3, {1,2} 2, {0,1,2} 2.
FIVE = (7, 7, 3, 5, 8)
TWELVE_APART = (0, 5, 11, 16, 22, 31, 32, 40, 47, 53, 62, 63)


def all_of(least, kind, how_many):
    return [set_at(least, kind, k) for k in range(how_many + 1)]


class Kinds(unittest.TestCase):
    def check(self, baskets, least, kind, told):
        self.assertEqual(ask_of(baskets, [sets(least, kind)]), [[len(told)]])
        self.assertEqual(ask_of(baskets, all_of(least, kind, len(told))), told + [[-1]])

    def test_with_the_support(self):
        self.check(FIVE, 1, 0, [[4, 1], [3, 2], [3, 4], [1, 8], [3, 3], [3, 5], [2, 6], [2, 7]])
        self.check(FIVE, 2, 0, [[4, 1], [3, 2], [3, 4], [3, 3], [3, 5], [2, 6], [2, 7]])
        self.check(FIVE, 3, 0, [[4, 1], [3, 2], [3, 4], [3, 3], [3, 5]])
        self.check(FIVE, 4, 0, [[4, 1]])
        self.check(FIVE, 5, 0, [])

    def test_closed(self):
        self.check(FIVE, 1, 1, [[4, 1], [1, 8], [3, 3], [3, 5], [2, 7]])
        self.check(FIVE, 2, 1, [[4, 1], [3, 3], [3, 5], [2, 7]])
        self.check(FIVE, 3, 1, [[4, 1], [3, 3], [3, 5]])
        self.check(FIVE, 4, 1, [[4, 1]])
        self.check(FIVE, 5, 1, [])

    def test_greatest(self):
        self.check(FIVE, 1, 2, [[1, 8], [2, 7]])
        self.check(FIVE, 2, 2, [[2, 7]])
        self.check(FIVE, 3, 2, [[3, 3], [3, 5]])
        self.check(FIVE, 4, 2, [[4, 1]])
        self.check(FIVE, 5, 2, [])

    def test_closed_and_greatest_of_one_basket(self):
        self.check((6,), 1, 0, [[1, 2], [1, 4], [1, 6]])
        self.check((6,), 1, 1, [[1, 6]])
        self.check((6,), 1, 2, [[1, 6]])

    def test_closed_only_by_the_least(self):
        # {0} has more support than {0,1}, which has less than the least: both kinds hold it.
        self.check((1, 1, 3), 2, 1, [[3, 1]])
        self.check((1, 1, 3), 2, 2, [[3, 1]])
        self.check((1, 1, 3), 1, 1, [[3, 1], [1, 3]])
        self.check((1, 1, 3), 1, 2, [[1, 3]])

    def test_empty_set_is_never_told(self):
        # The empty set is closed here and has the most support.
        self.assertEqual(ask_of((1, 2), [closure(0), sets(1, 0), sets(1, 1), sets(1, 2), set_at(1, 0, 0)]),
                         [[1, 0], [2], [2], [2], [1, 1]])
        self.check((1, 2), 2, 0, [])
        self.check((1, 2), 2, 1, [])
        self.check((1, 2), 2, 2, [])

    def test_greatest_overlap(self):
        self.check((7, 14, 28), 1, 2, [[1, 7], [1, 14], [1, 28]])
        self.check((7, 14, 28), 2, 2, [[2, 6], [2, 12]])
        self.check((7, 14, 28), 3, 2, [[3, 4]])
        self.check((7, 14, 28), 1, 1, [[3, 4], [2, 6], [2, 12], [1, 7], [1, 14], [1, 28]])


class Order(unittest.TestCase):
    def test_size_ahead_of_number(self):
        baskets = (things(0, 1, 2), things(63), things(3, 9))
        order = [things(0), things(1), things(2), things(3), things(9), things(63),
                 things(0, 1), things(0, 2), things(1, 2), things(3, 9), things(0, 1, 2)]
        self.assertEqual(ask_of(baskets, all_of(1, 0, len(order))), [[1, one] for one in order] + [[-1]])
        greatest = [things(63), things(3, 9), things(0, 1, 2)]
        self.assertEqual(ask_of(baskets, all_of(1, 2, 3)), [[1, one] for one in greatest] + [[-1]])
        self.assertEqual(ask_of(baskets, all_of(1, 1, 3)), [[1, one] for one in greatest] + [[-1]])

    def test_not_by_support(self):
        self.assertEqual(ask_of((4, 4, 6, 1), all_of(1, 0, 4)), [[1, 1], [1, 2], [3, 4], [1, 6], [-1]])

    def test_not_as_they_are_told(self):
        for baskets in ((1, 2, 12), (12, 2, 1), (2, 12, 1)):
            self.assertEqual(ask_of(baskets, all_of(1, 2, 3)), [[1, 1], [1, 2], [1, 12], [-1]])

    def test_same_size_by_number(self):
        pair = [things(0, 63), things(1, 2), things(5, 40), things(3, 4)]
        self.assertEqual(ask_of(pair, all_of(1, 2, 4)), [[1, one] for one in sorted(pair)] + [[-1]])


class Refusals(unittest.TestCase):
    def test_least(self):
        for least in (0, -1, 513, 514, LOWEST, HIGHEST):
            for kind in (0, 1, 2):
                self.assertEqual(ask_of(FIVE, [sets(least, kind), set_at(least, kind, 0)]), [[-1], [-1]])

    def test_edges_of_the_least(self):
        full = [3] * (MOST_BASKETS - 1) + [1]
        self.assertEqual(ask_of(full, [sets(512, 0), sets(512, 1), sets(512, 2), set_at(512, 0, 0), set_at(512, 0, 1),
                                       sets(513, 0), sets(511, 0), set_at(511, 0, 2)]),
                         [[1], [1], [1], [512, 1], [-1], [-1], [3], [511, 3]])
        self.assertEqual(ask_of(FIVE, [sets(1, 0), sets(0, 0), sets(512, 0), sets(513, 0)]), [[8], [-1], [0], [-1]])

    def test_kind(self):
        for kind in (-1, 3, LOWEST, HIGHEST):
            for least in (1, 2, 512):
                self.assertEqual(ask_of(FIVE, [sets(least, kind), set_at(least, kind, 0)]), [[-1], [-1]])
        self.assertEqual(ask_of(FIVE, [sets(2, -1), sets(2, 0), sets(2, 1), sets(2, 2), sets(2, 3)]),
                         [[-1], [7], [4], [1], [-1]])

    def test_k(self):
        for kind, how_many in ((0, 7), (1, 4), (2, 1)):
            wrong = [set_at(2, kind, k) for k in (-1, -how_many, LOWEST, how_many, how_many + 1, HIGHEST)]
            self.assertEqual(ask_of(FIVE, wrong), [[-1]] * 6)
            self.assertEqual(ask_of(FIVE, [set_at(2, kind, how_many - 1)]), [[2, 7]])

    def test_changes_nothing(self):
        told = ask(begin(), basket(7), basket(3), set_at(0, 0, 0), sets(1, 3), set_at(1, 0, 7), set_at(1, 0, -1),
                   sets(513, -1), support(3), closure(1), sets(1, 0), set_at(1, 1, 0), basket(4), sets(1, 1))
        self.assertEqual(told, [[0], [0], [1], [-1], [-1], [-1], [-1], [-1], [2], [0, 3], [7], [2, 3], [2], [3]])


class ManyThings(unittest.TestCase):
    def test_twelve_things(self):
        self.assertEqual(ask_of((4095,), [sets(1, 0), sets(1, 1), sets(1, 2), set_at(1, 0, 0), set_at(1, 0, 4094),
                                          set_at(1, 0, 4095), set_at(1, 1, 0), set_at(1, 2, 0)]),
                         [[4095], [1], [1], [1, 1], [1, 4095], [-1], [1, 4095], [1, 4095]])

    def test_every_set_closed(self):
        # Each set of n things has a support of 13 - n.
        baskets = [4095] + [4095 - (1 << thing) for thing in range(12)]
        self.assertEqual(ask_of(baskets, [sets(1, 0), sets(1, 1), sets(1, 2), sets(7, 0), sets(7, 1), sets(7, 2),
                                          set_at(7, 2, 0), set_at(1, 1, 4094)]),
                         [[4095], [4095], [1], [2509], [2509], [924], [7, 63], [1, 4095]])

    def test_twelve_things_far_apart(self):
        twelve = things(*TWELVE_APART)
        low = things(*TWELVE_APART[:6])
        high = things(*TWELVE_APART[5:])
        baskets = (twelve, low, high)
        self.assertEqual(ask_of(baskets, [sets(1, 0), sets(2, 0), sets(3, 0), sets(1, 1), sets(1, 2), sets(2, 2)]),
                         [[4095], [189], [1], [4], [1], [2]])
        self.assertEqual(ask_of(baskets, all_of(1, 1, 4)),
                         [[3, things(31)], [2, low], [2, high], [1, twelve], [-1]])
        self.assertEqual(ask_of(baskets, all_of(2, 2, 2)), [[2, low], [2, high], [-1]])
        self.assertEqual(ask_of(baskets, [set_at(1, 0, k) for k in range(13)]),
                         [[3 if thing == 31 else 2, things(thing)] for thing in TWELVE_APART] + [[2, things(0, 5)]])

    def test_thing_63(self):
        last = things(63)
        self.assertEqual(ask_of((last, last | 1), [sets(1, 0), set_at(1, 0, 0), set_at(1, 0, 1), set_at(1, 0, 2),
                                                   sets(2, 2), set_at(2, 2, 0), set_at(1, 1, 1), sets(1, 1)]),
                         [[3], [1, 1], [2, last], [1, last | 1], [1], [2, last], [1, last | 1], [2]])

    def test_same_basket_many_times(self):
        self.assertEqual(ask_of([5] * 300 + [6] * 200, [sets(200, 0), set_at(300, 1, 0), sets(301, 0), sets(500, 2),
                                                        set_at(500, 0, 0), sets(501, 0), set_at(200, 2, 1)]),
                         [[5], [500, 4], [1], [1], [500, 4], [0], [200, 6]])

    def test_large_baskets_against_the_reading(self):
        for how_many, start in ((MOST_BASKETS, 6), (40, 3)):
            baskets = tuple(drawn_baskets(how_many, start))
            for least in (1, 7, how_many // 3, how_many // 2):
                for kind in (0, 1, 2):
                    counted = read_sets(baskets, least, kind)[0]
                    ks = sorted({0, 1, counted // 3, counted // 2, counted - 2, counted - 1, counted})
                    with self.subTest(how_many=how_many, least=least, kind=kind):
                        self.assertEqual(ask_of(baskets, [sets(least, kind)] + [set_at(least, kind, k) for k in ks]),
                                         [[counted]] + [read_set(baskets, least, kind, k) for k in ks])


class FewBaskets(unittest.TestCase):
    def test_no_baskets(self):
        asked = [sets(1, 0), sets(1, 1), sets(1, 2), sets(512, 0), set_at(1, 0, 0), set_at(1, 1, 0), set_at(1, 2, 0)]
        self.assertEqual(ask_of((), asked), [[0]] * 4 + [[-1]] * 3)
        self.assertEqual(ask_of((), [sets(0, 0), sets(1, 3)]), [[-1], [-1]])

    def test_empty_baskets_alone(self):
        asked = [support(0), sets(1, 0), sets(1, 1), sets(1, 2), set_at(1, 0, 0), set_at(1, 1, 0), set_at(1, 2, 0)]
        self.assertEqual(ask_of((0, 0, 0), asked), [[3]] + [[0]] * 3 + [[-1]] * 3)

    def test_empty_baskets_beside_others(self):
        self.assertEqual(ask_of((0, 2, 0), [sets(1, 0), sets(1, 1), set_at(1, 1, 0), sets(2, 0)]),
                         [[1], [1], [1, 2], [0]])

    def test_least_above_the_number_of_baskets(self):
        self.assertEqual(ask_of((3, 3), [sets(2, 0), sets(3, 0), sets(3, 1), sets(3, 2), set_at(3, 0, 0)]),
                         [[3], [0], [0], [0], [-1]])

    def test_begin_again(self):
        told = ask(begin(), basket(7), sets(1, 0), begin(), sets(1, 0), set_at(1, 0, 0), basket(2), sets(1, 0),
                   set_at(1, 0, 0), set_at(1, 0, 1))
        self.assertEqual(told, [[0], [0], [7], [0], [0], [-1], [0], [1], [1, 2], [-1]])

    def test_baskets_told_between(self):
        told = ask(begin(), basket(1), sets(1, 0), set_at(1, 1, 0), basket(3), sets(1, 0), set_at(1, 1, 0),
                   sets(2, 0), basket(2), sets(2, 0), set_at(2, 0, 1), sets(1, 1), sets(2, 2), set_at(1, 2, 0))
        self.assertEqual(told, [[0], [0], [1], [1, 1], [1], [3], [2, 1], [1], [2], [2], [2, 2], [3], [2], [1, 3]])


class MoreThanALineHolds(unittest.TestCase):
    """-2 needs more than 12 different things, so it's asked of what a line can't hold."""

    def test_edge_of_65536(self):
        sixteen = basket(65535)
        one_more = basket(things(20))
        other = basket(things(21))
        told = ask_outside_a_line(begin(), sixteen, sets(1, 0), one_more, sets(1, 0), set_at(1, 0, 65535),
                                  set_at(1, 0, 65536), sets(1, 2), other, sets(1, 0), sets(1, 1), sets(1, 2),
                                  set_at(1, 0, 0), set_at(1, 2, -1), sets(2, 0))
        self.assertEqual(told, [[0], [0], [65535], [1], [65536], [1, 65535], [-1], [2], [2], [-2], [-2], [-2],
                                [-2], [-2], [0]])

    def test_minus_1_ahead_of_it(self):
        told = ask_outside_a_line(begin(), basket(things(*range(17))), sets(1, 0), sets(0, 0), sets(1, 3), sets(513, 0),
                                  set_at(1, -1, 0), set_at(0, 0, 0), rules(1, 2, 1), rules(0, 1, 1), rules(1, 1, 1))
        self.assertEqual(told[2:], [[-2], [-1], [-1], [-1], [-1], [-1], [-1], [-1], [-2]])


if __name__ == "__main__":
    unittest.main()
