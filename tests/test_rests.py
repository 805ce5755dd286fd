"""week, yearly, easters, closed, way."""

import unittest

from helper import BOTTOM, TOP, closed, easters, last, numbers, way, week, yearly

LEAP_YEAR = [31, 29, 31, 30, 31, 30, 31, 31, 30, 31, 30, 31]


class Week(unittest.TestCase):
    def test_how_many(self):
        self.assertEqual(numbers(week(5, 6), week(), week(0), week(6), week(0, 1, 2, 3, 4, 5)), [2, 0, 1, 1, 6])

    def test_the_same_again(self):
        self.assertEqual(numbers(week(5, 6), week(5, 6), week(6)), [2, 2, 1])

    def test_wrong_days(self):
        for days in ([7], [TOP], [0, 7], [1, 0], [3, 3], [0, 2, 1], [0, 1, 2, 3, 4, 5, 6], [7, 0], list(range(29)),
                     [1] * 29):
            with self.subTest(days=days):
                self.assertEqual(numbers(week(*days), week(6)), [-1, 1])


class Yearly(unittest.TestCase):
    def test_how_many_there_are(self):
        self.assertEqual(numbers(yearly(1, 1), yearly(12, 25), yearly(12, 26)), [1, 2, 3])

    def test_a_day_told_twice_counts_twice(self):
        self.assertEqual(numbers(yearly(1, 1), yearly(1, 1)), [1, 2])

    def test_each_month_as_a_leap_year_has_it(self):
        for month, days in enumerate(LEAP_YEAR, 1):
            with self.subTest(month=month):
                found = numbers(yearly(month, 0), yearly(month, 1), yearly(month, days), yearly(month, days + 1))
                self.assertEqual(found, [-1, 1, 2, -1])

    def test_wrong_months_and_days(self):
        for month, day in [(0, 1), (13, 1), (TOP, 1), (1, TOP), (0, 0), (2, 30), (TOP, TOP)]:
            with self.subTest(month=month, day=day):
                self.assertEqual(numbers(yearly(month, day), yearly(2, 29)), [-1, 1])

    def test_there_are_40(self):
        self.assertEqual(numbers(*[yearly(1 + k // 20, 1 + k % 20) for k in range(42)]), [*range(1, 41), -5, -5])

    def test_wrong_is_told_before_full(self):
        self.assertEqual(last(*[yearly(1, 1)] * 40, yearly(2, 30)), -1)


class Easters(unittest.TestCase):
    def test_how_many_there_are(self):
        self.assertEqual(numbers(easters(0), easters(1), easters(-2), easters(1)), [1, 2, 3, 4])

    def test_up_to_60_days_away(self):
        self.assertEqual(numbers(easters(60), easters(-60)), [1, 2])
        for days in (61, -61, TOP, BOTTOM):
            with self.subTest(days=days):
                self.assertEqual(numbers(easters(days), easters(0)), [-1, 1])

    def test_there_are_40(self):
        self.assertEqual(numbers(*[easters(k - 20) for k in range(42)]), [*range(1, 41), -5, -5])

    def test_wrong_is_told_before_full(self):
        self.assertEqual(last(*[easters(1)] * 40, easters(-61)), -1)


class Closed(unittest.TestCase):
    def test_how_many_there_are(self):
        self.assertEqual(numbers(closed(0), closed(60000), closed(7), closed(7)), [1, 2, 3, 4])

    def test_wrong_day(self):
        for day in (60001, TOP):
            with self.subTest(day=day):
                self.assertEqual(numbers(closed(day), closed(0)), [-1, 1])

    def test_there_are_40(self):
        self.assertEqual(numbers(*[closed(k) for k in range(42)]), [*range(1, 41), -5, -5])

    def test_wrong_is_told_before_full(self):
        self.assertEqual(last(*[closed(1)] * 40, closed(60001)), -1)


class EachKindByItself(unittest.TestCase):
    def test_counts(self):
        self.assertEqual(numbers(week(6), yearly(1, 1), easters(1), closed(1), yearly(1, 6)), [1, 1, 1, 1, 2])

    def test_room(self):
        full = [yearly(1, 1)] * 40
        self.assertEqual(numbers(*full, yearly(1, 1), easters(1), closed(1))[40:], [-5, 1, 1])


class WayCall(unittest.TestCase):
    def test_numbers_rise_from_0(self):
        self.assertEqual(numbers(way(0, 0, 0), way(1, 3, 2), way(1, 3, 2)), [0, 1, 2])

    def test_all_that_are_told(self):
        for counts in (0, 1):
            for rest in (0, 1, 2, 3):
                found = numbers(*[way(counts, rest, months) for months in (0, 1, 2)])
                self.assertEqual(found, [0, 1, 2])

    def test_wrong_numbers(self):
        for rest, months in [(4, 0), (TOP, 0), (0, 3), (0, TOP), (4, 3), (3, 3), (4, 2)]:
            with self.subTest(rest=rest, months=months):
                self.assertEqual(numbers(way(0, rest, months), way()), [-1, 0])

    def test_there_are_8(self):
        self.assertEqual(numbers(*[way()] * 10), [*range(8), -5, -5])

    def test_wrong_is_told_before_full(self):
        self.assertEqual(numbers(*[way()] * 8, way(0, 4, 0), way(0, 0, 3))[8:], [-1, -1])


if __name__ == "__main__":
    unittest.main()
