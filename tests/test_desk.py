import copy
import unittest

from oftentogetherdesk.desk import answers
from lines import (ALL_THINGS, MOST_BASKETS, ask, basket, begin, check_line, closure, line, rule, rules, set_at, sets,
                   split, support, things)

# Every call, answered and refused.
ALL_CALLS = [begin(), basket(7), basket(3), support(3), closure(1), closure(3), sets(1, 0), sets(1, 1), sets(1, 2),
             sets(0, 0), set_at(1, 0, 6), set_at(2, 1, 0), set_at(1, 0, 7), rules(1, 0, 1), rules(1, 1, 1),
             rules(1, 2, 1), rule(1, 1, 1, 6), rule(1, 1, 1, 7), begin(), basket(4095), rules(1, 0, 1),
             rule(1, 0, 1, 0), sets(1, 1)]
ALL_TOLD = [[0], [0], [1], [2], [0, 3], [1, 3], [7], [2], [1],
            [-1], [1, 7], [2, 3], [-1], [12], [7],
            [-1], [1, 6, 1, 1], [-1], [0], [0], [-2],
            [-2], [1]]


class Form(unittest.TestCase):
    def test_written_out(self):
        self.assertEqual(answers([0, 1, 7, 1, 3, 2, 3, 3, 1]), [1, 0, 1, 0, 1, 1, 1, 2, 2, 0, 3])

    def test_line_of_one_call(self):
        self.assertEqual(answers([0]), [1, 0])

    def test_sets_that_look_like_calls(self):
        calls = [0, 1, 0, 1, 1, 1, 2, 1, 3, 2, 0, 2, 1, 2, 2, 2, 3, 3, 3]
        told = [1, 0, 1, 0, 1, 1, 1, 2, 1, 3, 1, 4, 1, 2, 1, 2, 1, 1, 2, 1, 3]
        self.assertEqual(answers(calls), told)

    def test_all_calls(self):
        self.assertEqual(ask(*ALL_CALLS), ALL_TOLD)

    def test_written_out_with_sets_and_rules(self):
        calls = [0, 1, 7, 1, 3, 4, 2, 0, 5, 1, 1, 1, 6, 1, 1, 1, 7, 2, 1, 2, 1, 5, 1, 3, 0]
        told = [1, 0, 1, 0, 1, 1, 1, 3, 2, 1, 7, 1, 7, 4, 2, 2, 1, 2, 1, -1]
        self.assertEqual(answers(calls), told)

    def test_line_of_600_calls(self):
        calls = [begin()]
        expected = [[0]]
        for number in range(299):
            calls.append(basket(things(number % 12)))
            expected.append([number])
        for number in range(300):
            calls.append(support(things(number % 12)))
            # 299 baskets: thing 11 is in one fewer than the others.
            expected.append([24 if number % 12 == 11 else 25])
        self.assertEqual(len(calls), 600)
        self.assertEqual(ask(*calls), expected)

    def test_a_list_of_whole_numbers(self):
        told = answers(line(ALL_CALLS + [closure(ALL_THINGS)]))
        self.assertIs(type(told), list)
        for number in told:
            self.assertIs(type(number), int)


class NothingKept(unittest.TestCase):
    def test_list_handed_in_is_the_same(self):
        calls = line(ALL_CALLS)
        before = copy.copy(calls)
        answers(calls)
        self.assertEqual(calls, before)
        self.assertTrue(all(type(number) is int for number in calls))

    def test_never_written_to(self):
        class Watched(list):
            def refuse(self, *given, **named):
                raise AssertionError("the list that is handed in is changed")

            append = clear = extend = insert = pop = remove = reverse = sort = refuse
            __setitem__ = __delitem__ = __iadd__ = __imul__ = refuse

        calls = line(ALL_CALLS)
        self.assertEqual(answers(Watched(calls)), answers(calls))

    def test_same_line_twice(self):
        calls = line([begin(), basket(6), basket(2), support(2), closure(4)])
        first = answers(calls)
        self.assertEqual(first, [1, 0, 1, 0, 1, 1, 1, 2, 2, 0, 6])
        self.assertEqual(answers(calls), first)

    def test_all_calls_again_and_again(self):
        for turn in range(3):
            self.assertEqual(ask(*ALL_CALLS), ALL_TOLD)
            self.assertEqual(ask(begin(), sets(1, 0), set_at(1, 0, 0), rules(1, 0, 1), rule(1, 0, 1, 0)),
                             [[0], [0], [-1], [0], [-1]])
            self.assertEqual(ask(begin(), basket(6), sets(1, 0), set_at(1, 1, 0), rules(1, 0, 1), rule(1, 0, 1, 1)),
                             [[0], [0], [3], [1, 6], [2], [1, 4, 2, 1]])

    def test_two_lines_behind_one_another(self):
        full = [begin()] + [basket(9)] * MOST_BASKETS
        ask(*full)
        self.assertEqual(ask(begin(), support(0), closure(0), basket(1), support(1), support(8)),
                         [[0], [0], [0, ALL_THINGS], [0], [1], [0]])
        self.assertEqual(ask(begin(), basket(2), support(2)), [[0], [0], [1]])

    def test_what_is_given_back_is_free(self):
        calls = line([begin(), basket(6), closure(2)])
        first = answers(calls)
        kept = list(first)
        first.clear()
        self.assertEqual(answers(calls), kept)


class Begin(unittest.TestCase):
    def test_no_baskets(self):
        self.assertEqual(ask(begin(), support(0)), [[0], [0]])

    def test_again(self):
        told = ask(begin(), basket(3), basket(1), support(1), begin(), support(0), support(1), closure(1),
                   basket(2), basket(6), support(2), support(1), closure(4))
        self.assertEqual(told, [[0], [0], [1], [2], [0], [0], [0], [0, ALL_THINGS],
                                [0], [1], [2], [0], [0, 6]])

    def test_again_and_again(self):
        self.assertEqual(ask(begin(), begin(), begin(), basket(1), begin(), basket(1)),
                         [[0], [0], [0], [0], [0], [0]])

    def test_again_behind_512(self):
        calls = [begin()] + [basket(1)] * (MOST_BASKETS + 1) + [begin(), support(0), basket(1), basket(1), support(1)]
        self.assertEqual(ask(*calls)[-6:], [[-2], [0], [0], [0], [1], [2]])


class Basket(unittest.TestCase):
    def test_numbers_from_0_on(self):
        self.assertEqual(ask(begin(), basket(1), basket(2), basket(4)), [[0], [0], [1], [2]])

    def test_questions_do_not_count(self):
        self.assertEqual(ask(begin(), basket(1), support(1), closure(2), basket(2)),
                         [[0], [0], [1], [0, ALL_THINGS], [1]])

    def test_empty(self):
        self.assertEqual(ask(begin(), basket(0), support(0), support(1), closure(0), closure(1)),
                         [[0], [0], [1], [0], [1, 0], [0, ALL_THINGS]])

    def test_same_twice(self):
        self.assertEqual(ask(begin(), basket(5), basket(5), support(5), support(1), closure(1), closure(5)),
                         [[0], [0], [1], [2], [2], [0, 5], [1, 5]])

    def test_512_the_513th_and_behind(self):
        calls = [begin()] + [basket(3)] * MOST_BASKETS
        calls += [basket(1), support(0), support(1), support(2), closure(1), closure(0), basket(4),
                  support(4), closure(4), basket(3), support(3)]
        told = ask(*calls)
        self.assertEqual(told[1:MOST_BASKETS + 1], [[number] for number in range(MOST_BASKETS)])
        self.assertEqual(told[MOST_BASKETS + 1:],
                         [[-2], [512], [512], [512], [0, 3], [0, 3], [-2],
                          [0], [0, ALL_THINGS], [-2], [512]])

    def test_the_512th_counts(self):
        calls = [begin()] + [basket(1)] * (MOST_BASKETS - 1) + [support(2), basket(2), support(2), basket(2)]
        self.assertEqual(ask(*calls)[-5:], [[510], [0], [511], [1], [-2]])


class Support(unittest.TestCase):
    def test_between_and_behind(self):
        told = ask(begin(), basket(things(0, 1, 2)), support(things(0, 1)), basket(things(0, 1)),
                   support(things(0, 1)), basket(things(1, 2)), support(things(0, 1)), support(things(1)),
                   support(things(2)), support(things(0, 2)), support(things(0, 1, 2)))
        self.assertEqual(told, [[0], [0], [1], [1], [2], [2], [2], [3], [2], [1], [1]])

    def test_all_of_the_set_is_asked(self):
        self.assertEqual(ask(begin(), basket(1), basket(2), support(3)), [[0], [0], [1], [0]])

    def test_empty_set_is_in_every_basket(self):
        self.assertEqual(ask(begin(), basket(0), basket(1), basket(6), support(0)), [[0], [0], [1], [2], [3]])

    def test_all_64_things(self):
        self.assertEqual(ask(begin(), basket(4095), support(ALL_THINGS)), [[0], [0], [0]])

    def test_no_baskets(self):
        self.assertEqual(ask(begin(), support(0), support(1), support(ALL_THINGS)), [[0], [0], [0], [0]])

    def test_thing_63(self):
        last = things(63)
        self.assertEqual(ask(begin(), basket(last), basket(last | 1), basket(1), support(last), support(last | 1)),
                         [[0], [0], [1], [2], [2], [1]])

    def test_things_of_no_basket(self):
        self.assertEqual(ask(begin(), basket(3), support(things(40)), support(things(0, 40))),
                         [[0], [0], [0], [0]])


class Closure(unittest.TestCase):
    def test_between_and_behind(self):
        told = ask(begin(), basket(things(0, 1, 2)), closure(things(0)), basket(things(0, 1)),
                   closure(things(0)), closure(things(0, 1)), closure(things(2)), basket(things(0, 3)),
                   closure(things(0)), closure(things(1)), closure(things(3)), closure(0))
        self.assertEqual(told, [[0], [0], [0, 7], [1], [0, 3], [1, 3], [0, 7], [2],
                                [1, 1], [0, 3], [0, 9], [0, 1]])

    def test_empty_set(self):
        self.assertEqual(ask(begin(), basket(6), closure(0), basket(9), closure(0)),
                         [[0], [0], [0, 6], [1], [1, 0]])

    def test_all_64_things(self):
        self.assertEqual(ask(begin(), basket(1), closure(ALL_THINGS)), [[0], [0], [1, ALL_THINGS]])

    def test_no_baskets(self):
        self.assertEqual(ask(begin(), closure(0), closure(1), closure(ALL_THINGS - 1), closure(ALL_THINGS)),
                         [[0], [0, ALL_THINGS], [0, ALL_THINGS], [0, ALL_THINGS], [1, ALL_THINGS]])

    def test_set_that_no_basket_has(self):
        self.assertEqual(ask(begin(), basket(1), basket(2), closure(3), closure(4)),
                         [[0], [0], [1], [0, ALL_THINGS], [0, ALL_THINGS]])

    def test_thing_63(self):
        last = things(63)
        self.assertEqual(ask(begin(), basket(last | 1), basket(last), closure(1), closure(last), closure(last | 1)),
                         [[0], [0], [1], [0, last | 1], [1, last], [1, last | 1]])

    def test_twelve_things_far_apart(self):
        twelve = things(0, 5, 11, 16, 22, 31, 32, 40, 47, 53, 62, 63)
        low = things(0, 5, 11, 16, 22, 31)
        high = things(31, 32, 40, 47, 53, 62, 63)
        told = ask(begin(), basket(twelve), basket(low), basket(high), support(things(31)), closure(things(31)),
                   closure(things(0)), closure(things(63)), closure(things(0, 63)), closure(twelve), closure(0))
        self.assertEqual(told, [[0], [0], [1], [2], [3], [1, things(31)],
                                [0, low], [0, high], [0, twelve], [1, twelve], [0, things(31)]])


class Helpers(unittest.TestCase):
    def test_what_is_not_a_line_is_seen(self):
        wrong = ([], [basket(1)], [begin()] * 601, [begin()] + [sets(1, 0)] * 10 + [set_at(1, 0, 0)] * 11,
                 [begin()] + [rules(1, 0, 1)] * 4 + [rule(1, 0, 1, 0)] * 5, [begin(), basket(4095), begin(), basket(4096)])
        for calls in wrong:
            with self.assertRaises(AssertionError):
                check_line(calls)
        check_line([begin()] + [sets(1, 0)] * 20 + [rules(1, 0, 1)] * 8 + [basket(4095)] * 571)

    def test_wrong_counts_are_seen(self):
        for told in ([0], [2, 1], [1, 0, 3, 1]):
            with self.assertRaises(AssertionError):
                split(told)


if __name__ == "__main__":
    unittest.main()
