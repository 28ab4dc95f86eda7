"""Points 7 and 8: rules and rule."""

import unittest

from lines import (HIGHEST, LOWEST, MOST_BASKETS, ask, ask_of, ask_outside_a_line, basket, begin, closure,
                   drawn_baskets, rule, rules, set_at, sets, support, things)
from reading import read_rule, read_rules, rules_of

# Supports: {0} 4, {1} 3, {2} 3, {3} 1, {0,1} 3, {0,2} 3, {1,2} 2, {0,1,2} 2.
FIVE = (7, 7, 3, 5, 8)
FIVE_RULES = [[3, 1, 2, 4], [3, 2, 1, 3], [3, 1, 4, 4], [3, 4, 1, 3], [2, 2, 4, 3], [2, 4, 2, 3],
              [2, 1, 6, 4], [2, 2, 5, 3], [2, 3, 4, 3], [2, 4, 3, 3], [2, 5, 2, 3], [2, 6, 1, 2]]


def all_of(least, num, den, how_many):
    return [rule(least, num, den, k) for k in range(how_many + 1)]


class Ordinary(unittest.TestCase):
    def check(self, baskets, least, num, den, told):
        self.assertEqual(ask_of(baskets, [rules(least, num, den)]), [[len(told)]])
        self.assertEqual(ask_of(baskets, all_of(least, num, den, len(told))), told + [[-1]])

    def test_all_with_a_num_of_0(self):
        self.check(FIVE, 1, 0, 1, FIVE_RULES)
        self.check(FIVE, 2, 0, 1, FIVE_RULES)
        self.check(FIVE, 3, 0, 1, FIVE_RULES[:4])
        self.check(FIVE, 4, 0, 1, [])
        self.check(FIVE, 2, 0, 1000000, FIVE_RULES)

    def test_num_that_is_den(self):
        always = [one for one in FIVE_RULES if one[0] == one[3]]
        self.assertEqual(always, [[3, 2, 1, 3], [3, 4, 1, 3], [2, 6, 1, 2]])
        for den in (1, 2, 512, 1000000):
            self.check(FIVE, 2, den, den, always)
        self.check(FIVE, 3, 1, 1, always[:2])

    def test_just_enough_and_one_less(self):
        three_quarters = [one for one in FIVE_RULES if 4 * one[0] >= 3 * one[3]]
        two_thirds = [one for one in FIVE_RULES if 3 * one[0] >= 2 * one[3]]
        self.assertEqual((len(three_quarters), len(two_thirds)), (5, 11))
        self.check(FIVE, 2, 3, 4, three_quarters)
        self.check(FIVE, 2, 750000, 1000000, three_quarters)
        self.check(FIVE, 2, 749999, 1000000, three_quarters)
        self.check(FIVE, 2, 750001, 1000000, [one for one in FIVE_RULES if one[0] == one[3]])
        self.check(FIVE, 2, 2, 3, two_thirds)
        self.check(FIVE, 2, 666666, 1000000, two_thirds)
        self.check(FIVE, 2, 666667, 1000000, three_quarters)
        self.check(FIVE, 2, 666666, 999999, two_thirds)
        self.check(FIVE, 2, 1, 2, FIVE_RULES)
        self.check(FIVE, 2, 500001, 1000000, two_thirds)

    def test_edge_with_many_baskets(self):
        # {0} 512, {1} 511, together 511.
        baskets = [3] * (MOST_BASKETS - 1) + [1]
        self.assertEqual(ask_of(baskets, [rules(511, 511, 512), rules(1, 512, 513), rule(1, 511, 512, 0),
                                          rule(1, 511, 512, 1), rule(1, 511, 512, 2), rule(1, 512, 513, 0),
                                          rules(512, 0, 1), rules(1, 999999, 1000000)]),
                         [[2], [1], [511, 1, 2, 512], [511, 2, 1, 511], [-1], [511, 2, 1, 511], [0], [1]])

    def test_the_first_ones_support_counts(self):
        self.check((1, 1, 1, 3), 1, 1, 2, [[1, 2, 1, 1]])
        self.check((2, 2, 2, 3), 1, 1, 2, [[1, 1, 2, 1]])


class Order(unittest.TestCase):
    def test_same_sets_together(self):
        self.assertEqual(ask_of((7,), [rule(1, 0, 1, k) for k in range(6, 13)]),
                         [[1, first, 7 - first, 1] for first in range(1, 7)] + [[-1]])

    def test_size_ahead_of_number(self):
        baskets = (things(0, 1, 2), things(0, 63))
        pairs = [things(0, 1), things(0, 2), things(1, 2), things(0, 63)]
        together = [sum(one[1:3]) for one in ask_of(baskets, all_of(1, 0, 1, 13))]
        self.assertEqual(together, [pairs[0]] * 2 + [pairs[1]] * 2 + [pairs[2]] * 2 + [pairs[3]] * 2 + [7] * 6)

    def test_first_of_thing_63(self):
        last = things(63)
        self.assertEqual(ask_of((last | 1, last), all_of(1, 0, 1, 2)), [[1, 1, last, 1], [1, last, 1, 2], [-1]])

    def test_not_as_they_are_told(self):
        order = [[1, 1, 2, 1], [1, 2, 1, 1], [1, 4, 8, 1], [1, 8, 4, 1], [-1]]
        self.assertEqual(ask_of((3, 12), all_of(1, 0, 1, 4)), order)
        self.assertEqual(ask_of((12, 3), all_of(1, 0, 1, 4)), order)


class Refusals(unittest.TestCase):
    def both(self, least, num, den):
        return ask_of(FIVE, [rules(least, num, den), rule(least, num, den, 0)])

    def test_least(self):
        for least in (0, -1, 513, LOWEST, HIGHEST):
            self.assertEqual(self.both(least, 1, 2), [[-1], [-1]])
        self.assertEqual(self.both(1, 1, 2), [[12], [3, 1, 2, 4]])
        self.assertEqual(self.both(512, 1, 2), [[0], [-1]])

    def test_den(self):
        for num, den in ((0, 0), (0, -1), (-1, -1), (-2, -1), (0, LOWEST), (LOWEST, LOWEST), (1, 1000001),
                         (0, 1000001), (1000001, 1000001), (HIGHEST, HIGHEST)):
            self.assertEqual(self.both(2, num, den), [[-1], [-1]])
        self.assertEqual(self.both(2, 0, 1), [[12], [3, 1, 2, 4]])
        self.assertEqual(self.both(2, 1, 1), [[3], [3, 2, 1, 3]])
        self.assertEqual(self.both(2, 1, 1000000), [[12], [3, 1, 2, 4]])
        self.assertEqual(self.both(2, 1000000, 1000000), [[3], [3, 2, 1, 3]])

    def test_num(self):
        for num, den in ((-1, 1), (2, 1), (-1, 4), (5, 4), (LOWEST, 4), (HIGHEST, 4), (1000001, 1000000)):
            self.assertEqual(self.both(2, num, den), [[-1], [-1]])
        self.assertEqual(self.both(2, 4, 4), [[3], [3, 2, 1, 3]])
        self.assertEqual(self.both(2, 0, 4), [[12], [3, 1, 2, 4]])

    def test_k(self):
        wrong = [rule(2, 1, 1, k) for k in (-1, -3, LOWEST, 3, 4, HIGHEST)]
        self.assertEqual(ask_of(FIVE, wrong), [[-1]] * 6)
        self.assertEqual(ask_of(FIVE, [rule(2, 1, 1, 2), rule(2, 1, 1, 0)]), [[2, 6, 1, 2], [3, 2, 1, 3]])

    def test_changes_nothing(self):
        told = ask(begin(), basket(7), basket(3), rule(0, 0, 0, 0), rules(1, 2, 1), rule(1, 1, 1, -1),
                   rules(513, 0, 1), support(3), closure(1), rules(1, 1, 1), rule(1, 1, 1, 1), basket(4),
                   rules(1, 0, 1), sets(1, 0))
        self.assertEqual(told, [[0], [0], [1], [-1], [-1], [-1], [-1], [2], [0, 3], [7], [2, 2, 1, 2], [2],
                                [12], [7]])


class TooMany(unittest.TestCase):
    def test_twelve_things(self):
        self.assertEqual(ask_of((4095,), [rules(1, 0, 1), rules(1, 1, 1), rule(1, 0, 1, 0), rule(1, 1, 1, 65536),
                                          rule(1, 0, 1, -1), rule(1, 0, 1, LOWEST), rule(1, 0, 1, HIGHEST),
                                          rules(2, 0, 1)]),
                         [[-2], [-2], [-2], [-2], [-2], [-2], [-2], [0]])
        self.assertEqual(ask_of((4095,), [sets(1, 0), set_at(1, 0, 4094), support(4095), rules(1, 0, 1), sets(1, 1)]),
                         [[4095], [1, 4095], [1], [-2], [1]])

    def test_minus_1_ahead_of_it(self):
        asked = [rules(0, 0, 1), rules(513, 0, 1), rules(1, -1, 1), rules(1, 2, 1), rules(1, 0, 0),
                 rules(1, 0, 1000001), rule(0, 0, 1, 0), rule(1, 2, 1, 0)]
        self.assertEqual(ask_of((4095,), asked), [[-1]] * 8)
        self.assertEqual(ask_of((4095,), [rule(1, 0, 1000001, 0), rule(1, -1, 1, -1), rule(513, 0, 1, 0)]), [[-1]] * 3)

    def test_changes_nothing(self):
        told = ask(begin(), basket(4095), rules(1, 0, 1), rule(1, 0, 1, 0), support(4095), basket(1), rules(2, 0, 1),
                   support(1), rules(1, 0, 1), begin(), rules(1, 0, 1), basket(3), rules(1, 0, 1))
        self.assertEqual(told, [[0], [0], [-2], [-2], [1], [1], [0], [2], [-2], [0], [0], [0], [2]])

    def test_ten_and_eleven_things(self):
        # Of one basket of n things there are 3 ** n - 2 ** (n + 1) + 1 rules.
        self.assertEqual(ask_of((1023,), [rules(1, 0, 1), rule(1, 1, 1, 57001), rule(1, 1, 1, 57002)]),
                         [[57002], [1, 1022, 1, 1], [-1]])
        self.assertEqual(ask_of((2047,), [rules(1, 0, 1), rule(1, 0, 1, 0)]), [[-2], [-2]])

    def test_edge_of_65536(self):
        baskets = tuple(drawn_baskets(MOST_BASKETS, 6))
        self.assertEqual(len(rules_of(baskets, 10, 145, 287)), 65536)
        self.assertEqual(len(rules_of(baskets, 10, 97, 192)), 65537)
        ks = (0, 1, 40000, 65534, 65535)
        self.assertEqual(ask_of(baskets, [rules(10, 145, 287)] + [rule(10, 145, 287, k) for k in ks]),
                         [[65536]] + [read_rule(baskets, 10, 145, 287, k) for k in ks])
        self.assertEqual(ask_of(baskets, [rule(10, 145, 287, 65536), rules(10, 97, 192), rule(10, 97, 192, 0),
                                          rule(10, 97, 192, 65536), rule(10, 97, 192, 65537), rule(10, 97, 192, -1)]),
                         [[-1], [-2], [-2], [-2], [-2], [-2]])

    def test_no_rule_among_4095_sets(self):
        # Each set of n things has a support of 13 - n, so a larger one always has less.
        baskets = [4095] + [4095 - (1 << thing) for thing in range(12)]
        self.assertEqual(ask_of(baskets, [sets(1, 0), rules(1, 1, 1), rule(1, 1, 1, 0), rules(1, 12, 13),
                                          rules(1, 11, 12), rule(1, 11, 12, 131), rule(1, 11, 12, 132)]),
                         [[4095], [0], [-1], [0], [132], [11, 2048, 1024, 12], [-1]])

    def test_too_many_sets(self):
        # More than a line can hold: 131071 sets, no two of different sizes with the same support, so no rules.
        told_ahead = [begin(), basket(131071)] + [basket(131071 - (1 << thing)) for thing in range(17)]
        told = ask_outside_a_line(*told_ahead, rules(1, 1, 1), rule(1, 1, 1, 0), rules(1, 2, 1), rule(1, 1, 1, -1),
                                  rules(10, 1, 1))
        self.assertEqual(told[len(told_ahead):], [[-2], [-2], [-1], [-2], [0]])


class AgainstTheReading(unittest.TestCase):
    def test_large_baskets(self):
        for how_many, start in ((MOST_BASKETS, 2), (60, 5)):
            baskets = tuple(drawn_baskets(how_many, start))
            for least, num, den in ((1, 9, 10), (how_many // 8, 3, 5), (how_many // 3, 0, 1), (how_many // 5, 1, 1)):
                counted = read_rules(baskets, least, num, den)[0]
                ks = sorted({-1, 0, 1, counted // 3, counted // 2, counted - 1, counted})
                with self.subTest(how_many=how_many, least=least, num=num, den=den):
                    self.assertEqual(ask_of(baskets, [rules(least, num, den)] + [rule(least, num, den, k) for k in ks]),
                                     [[counted]] + [read_rule(baskets, least, num, den, k) for k in ks])


class FewBaskets(unittest.TestCase):
    def test_no_baskets(self):
        self.assertEqual(ask_of((), [rules(1, 0, 1), rules(512, 1, 1), rule(1, 0, 1, 0), rules(0, 0, 1),
                                     rules(1, 2, 1)]), [[0], [0], [-1], [-1], [-1]])

    def test_empty_baskets_alone(self):
        self.assertEqual(ask_of((0, 0), [rules(1, 0, 1), rule(1, 0, 1, 0), rule(1, 0, 1, -1)]), [[0], [-1], [-1]])

    def test_one_thing_makes_no_rule(self):
        self.assertEqual(ask_of((4, 4), [rules(1, 0, 1), rule(1, 0, 1, 0)]), [[0], [-1]])
        self.assertEqual(ask_of((4, 2, 1), [rules(1, 0, 1), rule(1, 0, 1, 0)]), [[0], [-1]])

    def test_least_above_the_number_of_baskets(self):
        self.assertEqual(ask_of((3, 3), [rules(2, 0, 1), rules(3, 0, 1), rule(3, 0, 1, 0)]), [[2], [0], [-1]])

    def test_same_basket_many_times(self):
        self.assertEqual(ask_of([5] * 300 + [4] * 200, [rules(300, 3, 5), rule(300, 3, 5, 1), rules(301, 0, 1),
                                                        rules(300, 4, 5), rule(300, 4, 5, 0)]),
                         [[2], [300, 4, 1, 500], [0], [1], [300, 1, 4, 300]])

    def test_begin_again_and_baskets_between(self):
        told = ask(begin(), basket(3), rules(1, 1, 1), basket(1), rules(1, 1, 1), rule(1, 1, 1, 0), begin(),
                   rules(1, 0, 1), rule(1, 0, 1, 0), basket(12), rules(1, 1, 1), rule(1, 1, 1, 1))
        self.assertEqual(told, [[0], [0], [2], [1], [1], [1, 2, 1, 1], [0], [0], [-1], [0], [2], [1, 8, 4, 1]])


if __name__ == "__main__":
    unittest.main()
