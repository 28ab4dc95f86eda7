"""Many lines, against a slow reading of the document's words."""

import random
import unittest

from lines import ALL_THINGS, MOST_BASKETS, ask, basket, begin, closure, support, things


def members(number):
    return frozenset(thing for thing in range(64) if number >> thing & 1)


def expected(calls):
    baskets = []
    told = []
    for call in calls:
        if call[0] == 0:
            baskets = []
            told.append([0])
            continue
        asked = members(call[1])
        having = [one for one in baskets if asked <= one]
        if call[0] == 1 and len(baskets) == MOST_BASKETS:
            told.append([-2])
        elif call[0] == 1:
            told.append([len(baskets)])
            baskets.append(asked)
        elif call[0] == 2:
            told.append([len(having)])
        else:
            whole = frozenset(thing for thing in range(64) if all(thing in one for one in having))
            told.append([int(whole == asked), things(*whole)])
    return told


def some_of(source, numbers, chance):
    return things(*[number for number in numbers if source.random() < chance])


def some_call(source, twelve, begins):
    drawn = source.random()
    if drawn < begins:
        return begin()
    if drawn < 0.5:
        return basket(some_of(source, twelve, source.choice((0.2, 0.5, 0.9))))
    wanted = source.choice((0, ALL_THINGS, 1 << 63, source.getrandbits(64),
                            some_of(source, twelve, 0.1), some_of(source, twelve, 0.3),
                            some_of(source, twelve, 0.6)))
    return source.choice((support, closure))(wanted)


class ManyLines(unittest.TestCase):
    def check(self, calls):
        self.assertLessEqual(len(calls), 600)
        self.assertEqual(ask(*calls), expected(calls))

    def test_short_lines(self):
        for seed in range(150):
            source = random.Random(seed)
            twelve = source.sample(range(64), source.randint(1, 12))
            with self.subTest(seed=seed):
                self.check([begin()] + [some_call(source, twelve, 0.05) for turn in range(source.randint(0, 40))])

    def test_lines_of_600_calls(self):
        for seed in range(3):
            source = random.Random(1000 + seed)
            twelve = source.sample(range(64), 12)
            with self.subTest(seed=seed):
                self.check([begin()] + [some_call(source, twelve, 0.003) for turn in range(599)])

    def test_lines_that_fill_the_desk(self):
        source = random.Random(2000)
        twelve = source.sample(range(64), 12)
        calls = [begin()] + [basket(some_of(source, twelve, 0.7)) for turn in range(MOST_BASKETS)]
        calls += [some_call(source, twelve, 0) for turn in range(600 - len(calls))]
        self.check(calls)


if __name__ == "__main__":
    unittest.main()
