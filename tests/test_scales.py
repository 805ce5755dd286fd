"""scale."""

import unittest

from helper import TOP, last, numbers, scale

BILLION = 1000000000


class ScaleCall(unittest.TestCase):
    def wrong(self, **told):
        with self.subTest(told=told):
            self.assertEqual(numbers(scale(**told), scale()), [-1, 0])

    def fine(self, **told):
        with self.subTest(told=told):
            self.assertEqual(numbers(scale(**told), scale()), [0, 1])

    def test_numbers_rise_from_0(self):
        self.assertEqual(numbers(scale(), scale(slices=1), scale(rounding=3)), [0, 1, 2])

    def test_each_rounding(self):
        self.assertEqual(numbers(*[scale(rounding=k) for k in range(4)]), [0, 1, 2, 3])

    def test_units(self):
        self.fine(unit=1)
        self.fine(unit=1000000)
        self.wrong(unit=0)
        self.wrong(unit=1000001)
        self.wrong(unit=TOP)

    def test_least_and_most(self):
        self.fine(least=BILLION)
        self.fine(most=BILLION)
        self.fine(least=BILLION, most=BILLION)
        self.fine(least=5, most=5)
        self.fine(least=5, most=6)
        self.wrong(least=BILLION + 1)
        self.wrong(most=BILLION + 1)
        self.wrong(least=TOP, most=TOP)
        self.wrong(least=5, most=4)
        self.wrong(least=2, most=1)

    def test_a_most_of_0_is_none(self):
        self.fine(least=0, most=0)
        self.fine(least=1, most=0)

    def test_1_to_8_brackets(self):
        self.fine(brackets=[(0, 1, 2)])
        self.fine(brackets=[(k, 1, 2) for k in range(8)])
        self.wrong(brackets=[])

    def test_a_row_that_ends_amid_a_bracket(self):
        self.wrong(brackets=[(0,)])
        self.wrong(brackets=[(0, 1)])
        self.wrong(brackets=[(0, 1, 2), (5,)])
        self.wrong(brackets=[(0, 1, 2), (5, 1)])

    def test_the_first_is_from_0(self):
        self.wrong(brackets=[(1, 1, 2)])
        self.wrong(brackets=[(1, 1, 2), (2, 1, 2)])
        self.wrong(brackets=[(BILLION, 1, 2)])

    def test_rising(self):
        self.fine(brackets=[(0, 1, 2), (1, 1, 2), (BILLION, 1, 2)])
        self.wrong(brackets=[(0, 1, 2), (0, 1, 3)])
        self.wrong(brackets=[(0, 1, 2), (7, 1, 2), (7, 1, 2)])
        self.wrong(brackets=[(0, 1, 2), (7, 1, 2), (6, 1, 2)])
        self.wrong(brackets=[(5, 1, 2), (0, 1, 2)])

    def test_a_bracket_from_too_much(self):
        self.wrong(brackets=[(0, 1, 2), (BILLION + 1, 1, 2)])
        self.wrong(brackets=[(0, 1, 2), (TOP, 1, 2)])

    def test_rates(self):
        self.fine(brackets=[(0, 0, 1)])
        self.fine(brackets=[(0, 10000, 10000)])
        self.fine(brackets=[(0, 10000, 1), (1, 0, 10000)])
        self.wrong(brackets=[(0, 10001, 1)])
        self.wrong(brackets=[(0, 1, 10001)])
        self.wrong(brackets=[(0, 1, 0)])
        self.wrong(brackets=[(0, 0, 0)])
        self.wrong(brackets=[(0, TOP, TOP)])
        self.wrong(brackets=[(0, 1, 2), (5, 1, 0)])
        self.wrong(brackets=[(k, 1, 2) for k in range(7)] + [(7, 10001, 2)])

    def test_rates_count_as_they_are_told(self):
        self.wrong(brackets=[(0, 20000, 2)])
        self.wrong(brackets=[(0, 2, 20000)])
        self.fine(brackets=[(0, 5000, 10000)])

    def test_there_are_6(self):
        self.assertEqual(numbers(*[scale()] * 8), [*range(6), -5, -5])

    def test_wrong_is_told_before_full(self):
        full = [scale()] * 6
        for told in ({"unit": 0}, {"least": BILLION + 1}, {"most": BILLION + 1}, {"least": 2, "most": 1},
                     {"brackets": []}, {"brackets": [(1, 1, 1)]}, {"brackets": [(0, 1, 0)]},
                     {"brackets": [(0, 1, 1), (0, 1, 1)]}):
            with self.subTest(told=told):
                self.assertEqual(last(*full, scale(**told)), -1)


if __name__ == "__main__":
    unittest.main()
