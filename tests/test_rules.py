"""order, rule, first."""

import itertools
import unittest

from helper import BOTTOM, TOP, first, last, numbers, order, rule


class Order(unittest.TestCase):
    def test_each_just_once(self):
        for three in itertools.product(range(3), repeat=3):
            with self.subTest(three=three):
                due = 0 if sorted(three) == [0, 1, 2] else -1
                self.assertEqual(numbers(order(*three)), [due])

    def test_may_be_told_again(self):
        self.assertEqual(numbers(order(2, 1, 0), order(1, 1, 0), order(2, 1, 0), order(0, 1, 2)), [0, -1, 0, 0])


class RuleCall(unittest.TestCase):
    def wrong(self, **told):
        with self.subTest(told=told):
            self.assertEqual(numbers(rule(**told), rule()), [-1, 0])

    def test_numbers_rise_from_0(self):
        self.assertEqual(numbers(rule(0), rule(1), rule(2), rule(2)), [0, 1, 2, 3])

    def test_ranks(self):
        self.assertEqual(numbers(rule(rank=0), rule(rank=9)), [0, 1])
        self.wrong(rank=10)
        self.wrong(rank=TOP)

    def test_dates_may_be_later_than_days(self):
        self.assertEqual(numbers(rule(date=0), rule(date=60001), rule(date=99999)), [0, 1, 2])
        self.wrong(date=100000)
        self.wrong(date=TOP)

    def test_what_it_says(self):
        self.assertEqual(numbers(*[rule(says=says) for says in (1, -1, 20, -20)]), [0, 1, 2, 3])
        for says in (0, 21, -21, TOP, BOTTOM):
            self.wrong(says=says)

    def test_days_let_through(self):
        spans = [(0, 0), (0, 1), (60000, 0), (59999, 60000), (0, 60000)]
        self.assertEqual(numbers(*[rule(start=start, end=end) for start, end in spans]), list(range(5)))

    def test_wrong_days(self):
        for start, end in [(60001, 0), (TOP, 0), (0, 60001), (0, TOP), (60000, 60001), (1, 1), (9, 8), (60000, 60000)]:
            self.wrong(start=start, end=end)

    def test_conditions_none_and_5(self):
        self.assertEqual(numbers(rule(conditions=[]), rule(conditions=[1, -20, 20, -1, 3])), [0, 1])

    def test_opposites_are_unlike(self):
        self.assertEqual(numbers(rule(conditions=[3, -3])), [0])

    def test_may_ask_for_what_it_says(self):
        self.assertEqual(numbers(rule(says=2, conditions=[2, -2])), [0])

    def test_wrong_conditions(self):
        for conditions in ([1, 2, 3, 4, 5, 6], [1, 1], [1, 2, 1], [-4, -4], [0], [21], [-21], [1, TOP], [BOTTOM],
                           [1, 2, 3, 4, 1], list(range(-13, 10))):
            self.wrong(conditions=conditions)

    def test_there_are_12(self):
        self.assertEqual(numbers(*[rule()] * 14), [*range(12), -5, -5])

    def test_wrong_is_told_before_full(self):
        full = [rule()] * 12
        for told in ({"rank": 10}, {"date": 100000}, {"says": 0}, {"start": 60001}, {"start": 5, "end": 5},
                     {"conditions": [1, 1]}, {"conditions": [0]}, {"conditions": [1, 2, 3, 4, 5, 6]}):
            with self.subTest(told=told):
                self.assertEqual(last(*full, rule(**told)), -1)


class First(unittest.TestCase):
    def test_one_goes_before_another(self):
        self.assertEqual(numbers(rule(), rule(), rule(), first(0, 1), first(1, 2), first(2, 0))[3:], [0, 0, 0])

    def test_no_such_rule(self):
        self.assertEqual(numbers(first(0, 0), rule(), first(0, 1), first(1, 0), first(TOP, 0), first(0, TOP)),
                         [-2, 0, -2, -2, -2, -2])

    def test_missing_is_told_before_itself(self):
        self.assertEqual(numbers(rule(), first(1, 1), first(TOP, TOP)), [0, -2, -2])

    def test_a_rule_before_itself(self):
        self.assertEqual(numbers(rule(), rule(), first(0, 0), first(1, 1), first(0, 1)), [0, 1, -3, -3, 0])

    def test_told_already_either_way(self):
        self.assertEqual(numbers(rule(), rule(), first(1, 0), first(1, 0), first(0, 1)), [0, 1, 0, -3, -3])

    def test_all_pairs_of_12(self):
        pairs = list(itertools.combinations(range(12), 2))[:60]
        found = numbers(*[rule()] * 12, *[first(one, other) for one, other in pairs])
        self.assertEqual(found[12:], [0] * 60)


if __name__ == "__main__":
    unittest.main()
