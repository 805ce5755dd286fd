"""rate, amount, event, remedy: what is let through and what is refused."""

import unittest

from helper import TOP, amount, event, last, numbers, rate, remedy, scale, way

BILLION = 1000000000
TOLD = [scale(), amount(), event(), way()]


class Rate(unittest.TestCase):
    def test_how_many_there_are(self):
        self.assertEqual(numbers(rate(5), rate(6), rate(60000)), [1, 2, 3])

    def test_the_first_is_from_any_day(self):
        self.assertEqual(numbers(rate(0)), [1])
        self.assertEqual(numbers(rate(60000)), [1])

    def test_wrong_day(self):
        for day in (60001, TOP):
            with self.subTest(day=day):
                self.assertEqual(numbers(rate(day), rate(0)), [-1, 1])

    def test_rates_let_through(self):
        self.assertEqual(numbers(rate(1, 0, 1), rate(2, 10000, 1), rate(3, 1, 10000), rate(4, 10000, 10000)),
                         [1, 2, 3, 4])

    def test_wrong_rates(self):
        for above, below in [(1, 0), (0, 0), (10001, 1), (1, 10001), (20000, 20000), (TOP, 1), (1, TOP)]:
            with self.subTest(above=above, below=below):
                self.assertEqual(numbers(rate(0, above, below), rate(0)), [-1, 1])

    def test_not_behind_the_last_ones_day(self):
        self.assertEqual(numbers(rate(7), rate(7), rate(6), rate(0), rate(8), rate(8), rate(7)),
                         [1, -3, -3, -3, 2, -3, -3])

    def test_there_are_8(self):
        self.assertEqual(numbers(*[rate(k) for k in range(10)]), [*range(1, 9), -5, -5])

    def test_the_first_refusal_counts(self):
        full = [rate(k) for k in range(8)]
        self.assertEqual(last(*full, rate(7)), -3)
        self.assertEqual(last(*full, rate(8)), -5)
        self.assertEqual(last(*full, rate(7, 1, 0)), -1)
        self.assertEqual(last(*full, rate(60001)), -1)
        self.assertEqual(numbers(rate(7), rate(7, 10001, 1)), [1, -1])


class Amount(unittest.TestCase):
    def test_numbers_rise_from_0(self):
        self.assertEqual(numbers(amount(5), amount(5), amount(0)), [0, 1, 2])

    def test_the_greatest(self):
        self.assertEqual(numbers(amount(BILLION), amount(BILLION + 1), amount(TOP), amount(0)), [0, -1, -1, 1])

    def test_there_are_10(self):
        self.assertEqual(numbers(*[amount(k) for k in range(12)]), [*range(10), -5, -5])

    def test_wrong_is_told_before_full(self):
        self.assertEqual(last(*[amount()] * 10, amount(BILLION + 1)), -1)


class Event(unittest.TestCase):
    def test_numbers_rise_from_0(self):
        self.assertEqual(numbers(event(5), event(5), event(0)), [0, 1, 2])

    def test_the_greatest(self):
        self.assertEqual(numbers(event(60000), event(60001), event(TOP), event(0)), [0, -1, -1, 1])

    def test_there_are_10(self):
        self.assertEqual(numbers(*[event(k) for k in range(12)]), [*range(10), -5, -5])

    def test_wrong_is_told_before_full(self):
        self.assertEqual(last(*[event()] * 10, event(60001)), -1)

    def test_amounts_and_events_are_counted_each_by_itself(self):
        self.assertEqual(numbers(amount(), amount(), event(), amount(), event()), [0, 1, 0, 2, 1])


class RemedyCall(unittest.TestCase):
    def wrong(self, **told):
        with self.subTest(told=told):
            self.assertEqual(numbers(*TOLD, remedy(**told), remedy())[4:], [-1, 0])

    def test_numbers_rise_from_0(self):
        self.assertEqual(numbers(*TOLD, remedy(), remedy(), remedy(2))[4:], [0, 1, 2])

    def test_statements(self):
        self.assertEqual(numbers(*TOLD, remedy(1), remedy(20))[4:], [0, 1])
        for statement in (0, 21, TOP):
            self.wrong(statement=statement)

    def test_each_unit_up_to_its_greatest_number(self):
        for unit, most in enumerate((9999, 999, 999, 99, 999)):
            with self.subTest(unit=unit):
                found = numbers(*TOLD, remedy(unit=unit, many=1), remedy(unit=unit, many=most),
                                remedy(unit=unit, many=0), remedy(unit=unit, many=most + 1),
                                remedy(unit=unit, many=TOP))
                self.assertEqual(found[4:], [0, 1, -1, -1, -1])

    def test_a_unit_above_4(self):
        self.wrong(unit=5)
        self.wrong(unit=TOP)

    def test_none_such(self):
        for told in ("scale", "amount", "event", "way"):
            for number in (1, TOP):
                with self.subTest(told=told, number=number):
                    self.assertEqual(numbers(*TOLD, remedy(**{told: number}), remedy())[4:], [-2, 0])
        for place in range(4):
            with self.subTest(place=place):
                self.assertEqual(last(*TOLD[:place], *TOLD[place + 1:], remedy()), -2)

    def test_the_last_of_each(self):
        self.assertEqual(last(*TOLD, *TOLD, remedy(1, 1, 1, 1, 1)), 0)

    def test_there_are_8(self):
        self.assertEqual(numbers(*TOLD, *[remedy()] * 10)[4:], [*range(8), -5, -5])

    def test_the_first_refusal_counts(self):
        full = [*TOLD, *[remedy()] * 8]
        self.assertEqual(numbers(remedy(0), remedy(unit=5), remedy(many=0), remedy()), [-1, -1, -1, -2])
        self.assertEqual(last(*full, remedy(way=1)), -2)
        self.assertEqual(last(*full, remedy(21)), -1)
        self.assertEqual(last(*full, remedy(21, way=1)), -1)


if __name__ == "__main__":
    unittest.main()
