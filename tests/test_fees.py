"""Fees by a scale, and interest, as case and owed tell them."""

import unittest
from fractions import Fraction

from helper import (TOP, amount, answered, case, event, last_answer, owed, proving, rate, remedy, rule, scale, way)

DOWN, UP, NEAR, EVEN = range(4)
BILLION = 1000000000
HALF = ((0, 1, 2),)


def fee(number, **told):
    found = last_answer(*proving(1), scale(**told), amount(number), event(), way(), remedy(), case())
    assert found[0] == 1 and found[1] == 0, found
    return found[2]


def interest(*rates, number=365, start=0, day=0):
    """The interest on the fee number."""
    told = [*proving(1), scale(brackets=[(0, 1, 1)]), amount(number), event(start), way(), remedy()]
    found = last_answer(*told, *rates, case(day))
    assert found[2] == number, found
    return found[3:5]


class Fees(unittest.TestCase):
    def test_steps(self):
        brackets = [(0, 1, 10), (100, 2, 10), (1000, 5, 10)]
        for number, due in ((0, 0), (10, 1), (90, 9), (100, 20), (110, 22), (990, 198), (1000, 500), (1010, 505)):
            with self.subTest(number=number):
                self.assertEqual(fee(number, brackets=brackets), due)

    def test_steps_at_a_brackets_edge(self):
        brackets = [(0, 1, 1), (100, 2, 1)]
        self.assertEqual([fee(k, brackets=brackets) for k in (99, 100, 101)], [99, 200, 202])

    def test_slices(self):
        brackets = [(0, 1, 10), (100, 2, 10), (1000, 5, 10)]
        for number, due in ((0, 0), (10, 1), (90, 9), (100, 10), (110, 12), (990, 188), (1000, 190), (1010, 195),
                            (2000, 690)):
            with self.subTest(number=number):
                self.assertEqual(fee(number, slices=1, brackets=brackets), due)

    def test_slices_at_a_brackets_edge(self):
        brackets = [(0, 1, 1), (100, 2, 1)]
        self.assertEqual([fee(k, slices=1, brackets=brackets) for k in (99, 100, 101)], [99, 100, 102])

    def test_slices_are_added_before_they_are_rounded(self):
        brackets = [(0, 1, 3), (1, 1, 3), (2, 1, 3)]
        self.assertEqual(fee(3, slices=1, brackets=brackets), 1)
        self.assertEqual(fee(3, slices=1, rounding=UP, brackets=brackets), 1)

    def test_8_brackets(self):
        brackets = [(k, k + 1, 1) for k in range(8)]
        self.assertEqual(fee(10, brackets=brackets), 80)
        self.assertEqual(fee(10, slices=1, brackets=brackets), 28 + 24)

    def test_the_last_bracket_and_the_greatest_amount(self):
        brackets = [(0, 1, 1), (BILLION, 3, 1)]
        self.assertEqual(fee(BILLION, brackets=brackets), 3 * BILLION)
        self.assertEqual(fee(BILLION, slices=1, brackets=brackets), BILLION)
        self.assertEqual(fee(BILLION, brackets=[(0, 10000, 1)]), 10000 * BILLION)

    def test_a_rate_of_0(self):
        self.assertEqual(fee(1000, brackets=[(0, 0, 7)]), 0)

    def test_each_rounding_at_a_half(self):
        for number, due in ((1, (0, 1, 1, 0)), (3, (1, 2, 2, 2)), (5, (2, 3, 3, 2)), (7, (3, 4, 4, 4)),
                            (4, (2, 2, 2, 2))):
            found = tuple(fee(number, rounding=rounding, brackets=HALF) for rounding in range(4))
            self.assertEqual(found, due)

    def test_each_rounding_off_a_half(self):
        thirds = [(0, 1, 3)]
        for number, due in ((1, (0, 1, 0, 0)), (2, (0, 1, 1, 1)), (3, (1, 1, 1, 1)), (4, (1, 2, 1, 1)),
                            (5, (1, 2, 2, 2))):
            found = tuple(fee(number, rounding=rounding, brackets=thirds) for rounding in range(4))
            self.assertEqual(found, due)

    def test_multiples_of_a_unit(self):
        whole = [(0, 1, 1)]
        for number, due in ((0, (0, 0, 0, 0)), (1, (0, 100, 0, 0)), (49, (0, 100, 0, 0)), (50, (0, 100, 100, 0)),
                            (51, (0, 100, 100, 100)), (100, (100, 100, 100, 100)), (149, (100, 200, 100, 100)),
                            (150, (100, 200, 200, 200)), (250, (200, 300, 300, 200)), (251, (200, 300, 300, 300))):
            found = tuple(fee(number, rounding=rounding, unit=100, brackets=whole) for rounding in range(4))
            with self.subTest(number=number):
                self.assertEqual(found, due)

    def test_a_little_off_a_half_of_an_odd_unit(self):
        self.assertEqual([fee(k, rounding=NEAR, unit=3, brackets=[(0, 1, 1)]) for k in range(7)],
                         [0, 0, 3, 3, 3, 6, 6])
        self.assertEqual([fee(k, rounding=NEAR, unit=3, brackets=HALF) for k in (2, 3, 4, 8, 9, 10)],
                         [0, 3, 3, 3, 6, 6])
        self.assertEqual([fee(k, rounding=EVEN, unit=3, brackets=HALF) for k in (2, 3, 4, 8, 9, 10, 15)],
                         [0, 0, 3, 3, 6, 6, 6])

    def test_the_greatest_unit(self):
        self.assertEqual(fee(1, rounding=UP, unit=1000000), 1000000)
        self.assertEqual(fee(999999, rounding=DOWN, unit=1000000, brackets=[(0, 1, 1)]), 0)

    def test_least_and_most(self):
        whole = [(0, 1, 1)]
        self.assertEqual([fee(k, least=5, most=9, brackets=whole) for k in (0, 4, 5, 6, 9, 10, 100)],
                         [5, 5, 5, 6, 9, 9, 9])
        self.assertEqual([fee(k, least=5, brackets=whole) for k in (4, 100)], [5, 100])
        self.assertEqual([fee(k, most=5, brackets=whole) for k in (4, 100)], [4, 5])
        self.assertEqual(fee(7, least=5, most=5, brackets=whole), 5)

    def test_least_and_most_are_not_rounded(self):
        self.assertEqual(fee(1, unit=100, least=7), 7)
        self.assertEqual(fee(1000, unit=100, most=333), 333)
        self.assertEqual(fee(500, rounding=UP, unit=100, most=270), 270)

    def test_a_most_of_0_is_none(self):
        self.assertEqual(fee(100, most=0, brackets=[(0, 1, 1)]), 100)


class Interest(unittest.TestCase):
    def test_no_rate(self):
        self.assertEqual(interest(day=1000), [0, 1])

    def test_on_the_events_own_day(self):
        self.assertEqual(interest(rate(0, 1, 10), start=50, day=50), [0, 1])
        self.assertEqual(interest(rate(0, 1, 10), start=50, day=51), [1, 10])

    def test_before_the_event(self):
        self.assertEqual(interest(rate(0, 1, 10), start=50, day=49), [0, 1])
        self.assertEqual(interest(rate(0, 1, 10), rate(30, 1, 5), start=50, day=20), [0, 1])

    def test_days_from_the_one_up_to_not_with_the_other(self):
        self.assertEqual(interest(rate(0, 1, 1), start=10, day=13), [3, 1])

    def test_before_the_first_rate(self):
        self.assertEqual(interest(rate(20, 1, 1), start=10, day=20), [0, 1])
        self.assertEqual(interest(rate(20, 1, 1), start=10, day=21), [1, 1])
        self.assertEqual(interest(rate(20, 1, 1), start=10, day=25), [5, 1])

    def test_over_several_rates(self):
        rates = [rate(20, 1, 2), rate(30, 1, 3), rate(40, 0, 1), rate(50, 2, 1)]
        for start, day, due in ((10, 25, Fraction(5, 2)), (10, 30, Fraction(5)), (10, 31, 5 + Fraction(1, 3)),
                                (25, 35, Fraction(5, 2) + Fraction(5, 3)), (35, 60, Fraction(5, 3) + 20),
                                (10, 55, 5 + Fraction(10, 3) + 10), (40, 50, Fraction(0)), (60, 61, Fraction(2))):
            with self.subTest(start=start, day=day):
                self.assertEqual(interest(*rates, start=start, day=day), [due.numerator, due.denominator])

    def test_365_days_in_each_year(self):
        self.assertEqual(interest(rate(0, 1, 1), number=1, day=366), [366, 365])
        self.assertEqual(interest(rate(0, 5, 100), number=200, day=365), [10, 1])

    def test_lowest_terms(self):
        self.assertEqual(interest(rate(0, 10, 100), number=100, day=73), [2, 1])
        self.assertEqual(interest(rate(0, 4, 6), number=365, day=1), [2, 3])
        self.assertEqual(interest(rate(0, 0, 10000), number=365, day=1), [0, 1])
        self.assertEqual(interest(rate(0, 1, 10000), number=0, day=1), [0, 1])

    def test_great_numbers(self):
        rates = [rate(k, 9999 - k, 10000 - 3 * k) for k in range(8)]
        due = sum(Fraction(9999 - k, 10000 - 3 * k) for k in range(7)) + (60000 - 7) * Fraction(9992, 9979)
        due = due * BILLION / 365
        self.assertEqual(interest(*rates, number=BILLION, day=60000), [due.numerator, due.denominator])

    def test_on_the_fee_not_the_amount(self):
        told = [*proving(1), scale(brackets=[(0, 1, 10)]), amount(3650), event(), way(), remedy(), rate(0, 1, 1)]
        self.assertEqual(last_answer(*told, case(2))[2:5], [365, 2, 1])


class Case(unittest.TestCase):
    def told(self):
        return [scale(brackets=[(0, 1, 1)]), scale(brackets=[(0, 2, 1)]), amount(365), amount(730), event(10), event(20),
                way(), way(1), rate(0, 1, 10)]

    def test_wrong_day(self):
        self.assertEqual(answered(case(60001), case(TOP), owed(60001), owed(TOP)), [[-1]] * 4)

    def test_none(self):
        self.assertEqual(answered(case(60000), owed(60000)), [[0], [0, 0, 1]])
        self.assertEqual(answered(*self.told(), remedy(), case(5), owed(5))[-2:], [[0], [0, 0, 1]])

    def test_those_whose_statements_hold(self):
        told = [*self.told(), *proving(2, 4, -4, -5), rule(says=3), rule(says=6), rule(says=-6),
                rule(says=7, conditions=[7])]
        remedies = [remedy(k) for k in range(1, 8)]
        self.assertEqual(last_answer(*told, *remedies, case(0)), [2, 1, 365, 0, 1, 1, 11, 2, 365, 0, 1, 1, 11])

    def test_each_with_its_own(self):
        told = [*self.told(), *proving(1), remedy(1, 0, 0, 0, 0, 0, 5), remedy(1, 1, 0, 1, 1, 1, 1),
                remedy(1, 0, 1, 1, 0, 0, 9)]
        self.assertEqual(answered(*told, case(15), owed(15))[-2:],
                         [[3, 0, 365, 1, 2, 1, 15, 1, 730, 0, 1, 1, 26, 2, 730, 0, 1, 1, 29], [0, 3651, 2]])
        self.assertEqual(answered(*told, case(21), owed(21))[-2:],
                         [[3, 0, 365, 11, 10, 1, 15, 1, 730, 1, 5, 1, 26, 2, 730, 1, 5, 1, 29], [0, 3653, 2]])

    def test_two_on_one_statement_are_both_owed(self):
        told = [*self.told(), *proving(1), remedy(), remedy()]
        self.assertEqual(last_answer(*told, owed(10)), [0, 730, 1])

    def test_owed_behind_the_last_day_too(self):
        told = [*self.told(), *proving(1), remedy()]
        self.assertEqual(last_answer(*told, owed(110)), [0, 375, 1])

    def test_as_the_law_of_that_day_is(self):
        told = [*self.told(), rule(says=1, start=30, end=40), remedy()]
        found = answered(*told, owed(29), owed(30), owed(39), owed(40), case(40))[-5:]
        self.assertEqual(found, [[0, 0, 1], [0, 367, 1], [0, 3679, 10], [0, 0, 1], [0]])

    def test_all_8(self):
        told = [*self.told(), *proving(1), *[remedy()] * 8]
        found = answered(*told, case(10), owed(11))[-2:]
        self.assertEqual(found, [[8] + [number for k in range(8) for number in (k, 365, 0, 1, 1, 11)],
                                 [0, 14604, 5]])


if __name__ == "__main__":
    unittest.main()
