"""Many lines, against a slow reading of the document's words."""

import random
import time
import unittest

from lines import (ALL_THINGS, HIGHEST, LOWEST, MOST_BASKETS, ask, ask_of, basket, begin, closure, drawn_baskets,
                   rule, rules, set_at, sets, support, things)
from reading import expected, rules_of, sets_of

# Far more than such a line takes, and still no more than a test may take.
SECONDS = 30


def some_of(source, numbers, chance):
    return things(*[number for number in numbers if source.random() < chance])


def some_call(source, twelve, begins):
    drawn = source.random()
    if drawn < begins:
        return begin()
    if drawn < 0.5:
        return basket(some_of(source, twelve, source.choice((0.2, 0.5, 0.9))))
    wanted = source.choice((0, ALL_THINGS, 1 << 63, source.getrandbits(64),
                            some_of(source, twelve, 0.1), some_of(source, twelve, 0.3),
                            some_of(source, twelve, 0.6)))
    return source.choice((support, closure))(wanted)


def some_least(source):
    return source.choice((1, 1, 2, 2, 3, 4, 5, 8, 0, -1, 512, 513, LOWEST, HIGHEST))


def some_k(source):
    return source.choice((0, 1, 2, 3, 5, 8, 13, 21, source.randint(0, 200), -1, LOWEST, HIGHEST))


def some_question(source):
    """A call of sets or set, or in one case of four of rules or rule."""
    least = some_least(source)
    k = some_k(source)
    if source.random() < 0.75:
        kind = source.choice((0, 0, 1, 1, 1, 2, 2, 2, -1, 3, HIGHEST))
        return source.choice((sets(least, kind), set_at(least, kind, k), set_at(least, kind, k)))
    den = source.choice((1, 2, 3, 4, 7, 1000000, 0, -1, 1000001))
    num = source.choice((0, 1, den // 2, den // 3, den - 1, den, den + 1, -1))
    return source.choice((rules(least, num, den), rule(least, num, den, k), rule(least, num, den, k)))


def some_line(source, twelve, length):
    calls = [begin()]
    left = {4: 20, 5: 20, 6: 8, 7: 8}
    for turn in range(length):
        call = some_question(source) if source.random() < 0.3 else some_call(source, twelve, 0.03)
        if call[0] >= 4:
            if left[call[0]] == 0:
                continue
            first = 4 if call[0] <= 5 else 6
            left[first] -= 1
            left[first + 1] -= 1
        calls.append(call)
    return calls


class ManyLines(unittest.TestCase):
    def check(self, calls):
        self.assertLessEqual(len(calls), 600)
        self.assertEqual(ask(*calls), expected(calls))

    def test_short_lines(self):
        for seed in range(150):
            source = random.Random(seed)
            twelve = source.sample(range(64), source.randint(1, 12))
            with self.subTest(seed=seed):
                self.check([begin()] + [some_call(source, twelve, 0.05) for turn in range(source.randint(0, 40))])

    def test_lines_of_600_calls(self):
        for seed in range(3):
            source = random.Random(1000 + seed)
            twelve = source.sample(range(64), 12)
            with self.subTest(seed=seed):
                self.check([begin()] + [some_call(source, twelve, 0.003) for turn in range(599)])

    def test_lines_that_fill_the_desk(self):
        source = random.Random(2000)
        twelve = source.sample(range(64), 12)
        calls = [begin()] + [basket(some_of(source, twelve, 0.7)) for turn in range(MOST_BASKETS)]
        calls += [some_call(source, twelve, 0) for turn in range(600 - len(calls))]
        self.check(calls)

    def test_lines_with_all_calls(self):
        for seed in range(300):
            source = random.Random(3000 + seed)
            few = source.sample(range(64), source.randint(1, 6))
            with self.subTest(seed=seed):
                self.check(some_line(source, few, source.randint(1, 80)))


class EveryOne(unittest.TestCase):
    """Every k from 0 to behind the last."""

    def baskets(self, source):
        few = source.sample(range(64), source.randint(1, 6))
        chance = source.choice((0.3, 0.5, 0.8))
        return tuple(some_of(source, few, chance) for turn in range(source.randint(1, 12)))

    def test_sets(self):
        for seed in range(60):
            baskets = self.baskets(random.Random(4000 + seed))
            for least in (1, 2, 3, len(baskets)):
                for kind in (0, 1, 2):
                    found = sets_of(baskets, least, kind)
                    told = [[sum(1 for one in baskets if one & found_set == found_set), found_set]
                            for found_set in found]
                    with self.subTest(seed=seed, least=least, kind=kind):
                        asked = [sets(least, kind)] + [set_at(least, kind, k) for k in range(len(found) + 1)]
                        self.assertEqual(ask_of(baskets, asked), [[len(found)]] + told + [[-1]])

    def test_rules(self):
        for seed in range(40):
            baskets = self.baskets(random.Random(5000 + seed))
            for least, num, den in ((1, 1, 2), (2, 2, 3), (1, 1, 1), (2, 0, 5)):
                found = rules_of(baskets, least, num, den)
                told = [[sum(1 for one in baskets if one & (first | second) == first | second), first, second,
                         sum(1 for one in baskets if one & first == first)] for first, second in found]
                with self.subTest(seed=seed, least=least, num=num, den=den):
                    asked = [rules(least, num, den)] + [rule(least, num, den, k) for k in range(len(found) + 1)]
                    self.assertEqual(ask_of(baskets, asked), [[len(found)]] + told + [[-1]])


class LongLines(unittest.TestCase):
    def whole_line(self, baskets):
        calls = [begin()] + [basket(one) for one in baskets]
        for turn in range(10):
            calls += [sets(1 + turn % 3, turn % 3), set_at(1 + turn % 2, turn % 3, turn * 7)]
        for turn in range(4):
            calls += [rules(1, 9 - turn, 10), rule(1, 97 + turn, 100, turn * 31)]
        calls += [support(turn) for turn in range(600 - len(calls))]
        self.assertEqual(len(calls), 600)
        started = time.perf_counter()
        told = ask(*calls)
        self.assertLess(time.perf_counter() - started, SECONDS)
        self.assertEqual(told, expected(calls))

    def test_drawn_baskets(self):
        self.whole_line(drawn_baskets(MOST_BASKETS, 6))

    def test_the_largest_baskets(self):
        self.whole_line(sorted(range(4096), key=lambda one: (-one.bit_count(), one))[:MOST_BASKETS])

    def test_the_same_basket(self):
        self.whole_line([4095] * MOST_BASKETS)


if __name__ == "__main__":
    unittest.main()
