"""Days of rest and the last day of a span, as case tells it."""

import datetime
import random
import unittest

from casedecided.dates import date_of, day_of, easter_of, month_days, weekday_of
from helper import amount, case, closed, easters, event, last_answer, proving, remedy, scale, way, week, yearly

DAYS, WEEKS, MONTHS, YEARS, WORKING = range(5)
STAYS, ON, BACK, ON_IN_MONTH = range(4)
ZERO = datetime.date(2000, 1, 1)
MONDAY = 2  # January 3, 2000


def on(year, month, day):
    return (datetime.date(year, month, day) - ZERO).days


def deadline(*told, start=0, unit=DAYS, many=1, counts=0, rest=STAYS, months=0):
    """The last day; None if there's none."""
    calls = [*proving(1), scale(), amount(), event(start), way(counts, rest, months), remedy(unit=unit, many=many)]
    found = last_answer(*calls, *told, case())
    assert len(found) == 7, found
    if found[5] == 0:
        assert found[6] == 0, found
        return None
    assert found[5] == 1 and type(found[6]) is int, found
    return found[6]


def closings(begin, many):
    """Mondays alone don't rest, and from the first one told on so many of those neither."""
    days = [begin + 7 * k for k in range(many)]
    dates = [ZERO + datetime.timedelta(day) for day in days[40:]]
    return [week(1, 2, 3, 4, 5, 6)] + [closed(day) for day in days[:40]] + [
        yearly(date.month, date.day) for date in dates]


class Calendar(unittest.TestCase):
    def test_each_day_of_four_centuries(self):
        date = datetime.date(1998, 1, 1)
        while date.year < 2410:
            day = (date - ZERO).days
            found = date_of(day)
            self.assertEqual((found.year, found.month, found.day), (date.year, date.month, date.day))
            self.assertEqual(day_of(date.year, date.month, date.day), day)
            self.assertEqual(weekday_of(day), date.weekday())
            date += datetime.timedelta(1)

    def test_leap_years(self):
        self.assertEqual([month_days(year, 2) for year in (1999, 2000, 2001, 2004, 2096, 2100, 2104, 2200, 2400)],
                         [28, 29, 28, 29, 29, 28, 29, 28, 29])

    def test_easter(self):
        for year, month, day in ((1999, 4, 4), (2000, 4, 23), (2008, 3, 23), (2011, 4, 24), (2024, 3, 31),
                                 (2025, 4, 20), (2026, 4, 5), (2038, 4, 25), (2049, 4, 18), (2076, 4, 19),
                                 (2100, 3, 28), (2285, 3, 22)):
            with self.subTest(year=year):
                self.assertEqual(easter_of(year), on(year, month, day))

    def test_easter_in_any_year(self):
        for year in range(1583, 6000):
            day = easter_of(year)
            self.assertEqual(day, (easter_date(year) - ZERO).days)
            self.assertEqual(weekday_of(day), 6)
            self.assertTrue(on(year, 3, 22) <= day <= on(year, 4, 25))


class Spans(unittest.TestCase):
    def test_days(self):
        self.assertEqual(deadline(start=10, many=1), 11)
        self.assertEqual(deadline(start=10, many=1, counts=1), 10)
        self.assertEqual(deadline(start=60000, many=9999), 69999)
        self.assertEqual(deadline(start=60000, many=9999, counts=1), 69998)

    def test_weeks(self):
        self.assertEqual(deadline(start=10, unit=WEEKS, many=2), 24)
        self.assertEqual(deadline(start=10, unit=WEEKS, many=2, counts=1), 23)
        self.assertEqual(deadline(start=60000, unit=WEEKS, many=999), 66993)

    def test_months(self):
        start = on(2001, 3, 15)
        self.assertEqual(deadline(start=start, unit=MONTHS, many=1), on(2001, 4, 15))
        self.assertEqual(deadline(start=start, unit=MONTHS, many=9), on(2001, 12, 15))
        self.assertEqual(deadline(start=start, unit=MONTHS, many=10), on(2002, 1, 15))
        self.assertEqual(deadline(start=start, unit=MONTHS, many=1, counts=1), on(2001, 4, 14))
        self.assertEqual(deadline(start=start, unit=MONTHS, many=999), on(2084, 6, 15))

    def test_years(self):
        start = on(2001, 3, 15)
        self.assertEqual(deadline(start=start, unit=YEARS, many=1), on(2002, 3, 15))
        self.assertEqual(deadline(start=start, unit=YEARS, many=99), on(2100, 3, 15))
        self.assertEqual(deadline(start=60000, unit=YEARS, many=99), on(2263, 4, 10))

    def test_december_to_december(self):
        for months in range(3):
            self.assertEqual(deadline(start=on(2003, 12, 31), unit=YEARS, many=1, months=months), on(2004, 12, 31))
            self.assertEqual(deadline(start=on(2003, 12, 1), unit=MONTHS, many=12, months=months), on(2004, 12, 1))

    def test_the_month_has_not_that_day(self):
        for start, many, due in (((2001, 1, 31), 1, ((2001, 2, 28), (2001, 3, 1), (2001, 2, 28))),
                                 ((2001, 1, 30), 1, ((2001, 2, 28), (2001, 3, 1), (2001, 2, 28))),
                                 ((2001, 1, 29), 1, ((2001, 2, 28), (2001, 3, 1), (2001, 2, 28))),
                                 ((2001, 1, 28), 1, ((2001, 2, 28), (2001, 2, 28), (2001, 2, 28))),
                                 ((2004, 1, 29), 1, ((2004, 2, 29), (2004, 2, 29), (2004, 2, 29))),
                                 ((2004, 1, 30), 1, ((2004, 2, 29), (2004, 3, 1), (2004, 2, 29))),
                                 ((2001, 3, 31), 1, ((2001, 4, 30), (2001, 5, 1), (2001, 4, 30))),
                                 ((2001, 10, 31), 13, ((2002, 11, 30), (2002, 12, 1), (2002, 11, 30)))):
            for months in range(3):
                with self.subTest(start=start, months=months):
                    self.assertEqual(deadline(start=on(*start), unit=MONTHS, many=many, months=months),
                                     on(*due[months]))

    def test_from_a_months_last_day(self):
        for start, many, due in (((2001, 2, 28), 1, ((2001, 3, 28), (2001, 3, 28), (2001, 3, 31))),
                                 ((2001, 4, 30), 1, ((2001, 5, 30), (2001, 5, 30), (2001, 5, 31))),
                                 ((2004, 2, 28), 1, ((2004, 3, 28), (2004, 3, 28), (2004, 3, 28))),
                                 ((2004, 2, 29), 1, ((2004, 3, 29), (2004, 3, 29), (2004, 3, 31))),
                                 ((2001, 4, 29), 1, ((2001, 5, 29), (2001, 5, 29), (2001, 5, 29))),
                                 ((2100, 2, 28), 48, ((2104, 2, 28), (2104, 2, 28), (2104, 2, 29)))):
            for months in range(3):
                with self.subTest(start=start, months=months):
                    self.assertEqual(deadline(start=on(*start), unit=MONTHS, many=many, months=months),
                                     on(*due[months]))

    def test_from_each_months_last_day_to_each_other(self):
        lasts = [31, 28, 31, 30, 31, 30, 31, 31, 30, 31, 30, 31]
        for month, day in enumerate(lasts):
            for many in range(1, 13):
                year, then = divmod(month + many, 12)
                with self.subTest(month=month, many=many):
                    self.assertEqual(deadline(start=on(2001, month + 1, day), unit=MONTHS, many=many, months=2),
                                     on(2001 + year, then + 1, lasts[then]))

    def test_years_from_february_29(self):
        for start, many, due in (((2000, 2, 29), 1, ((2001, 2, 28), (2001, 3, 1), (2001, 2, 28))),
                                 ((2000, 2, 29), 4, ((2004, 2, 29), (2004, 2, 29), (2004, 2, 29))),
                                 ((2096, 2, 29), 4, ((2100, 2, 28), (2100, 3, 1), (2100, 2, 28))),
                                 ((2001, 2, 28), 3, ((2004, 2, 28), (2004, 2, 28), (2004, 2, 29)))):
            for months in range(3):
                with self.subTest(start=start, months=months):
                    self.assertEqual(deadline(start=on(*start), unit=YEARS, many=many, months=months),
                                     on(*due[months]))

    def test_one_day_less_is_taken_off_the_end(self):
        told = {"start": on(2001, 1, 31), "unit": MONTHS, "counts": 1}
        self.assertEqual([deadline(**told, months=months) for months in range(3)],
                         [on(2001, 2, 27), on(2001, 2, 28), on(2001, 2, 27)])

    def test_one_day_less_comes_before_the_rule_for_an_end(self):
        # January 8, 2000 is a Saturday.
        self.assertEqual(deadline(week(5, 6), start=on(2000, 1, 7), counts=1, many=2, rest=ON), on(2000, 1, 10))
        self.assertEqual(deadline(week(5, 6), start=on(2000, 1, 7), counts=1, many=1, rest=ON), on(2000, 1, 7))


class Ends(unittest.TestCase):
    def test_an_end_on_no_day_of_rest_stays(self):
        for rest in range(4):
            self.assertEqual(deadline(week(5, 6), start=on(2000, 1, 9), rest=rest), on(2000, 1, 10))

    def test_an_end_on_a_day_of_rest(self):
        due = [on(2000, 1, 8), on(2000, 1, 10), on(2000, 1, 7), on(2000, 1, 10)]
        self.assertEqual([deadline(week(5, 6), start=on(2000, 1, 7), rest=rest) for rest in range(4)], due)

    def test_the_next_one_is_in_another_month(self):
        # Saturday, April 29, 2000; the next day that's none of rest is May 1.
        due = [on(2000, 4, 29), on(2000, 5, 1), on(2000, 4, 28), on(2000, 4, 28)]
        self.assertEqual([deadline(week(5, 6), start=on(2000, 4, 28), rest=rest) for rest in range(4)], due)

    def test_the_next_one_is_in_another_year(self):
        # Saturday, December 30, 2000.
        due = [on(2000, 12, 30), on(2001, 1, 1), on(2000, 12, 29), on(2000, 12, 29)]
        self.assertEqual([deadline(week(5, 6), start=on(2000, 12, 29), rest=rest) for rest in range(4)], due)

    def test_the_same_month_of_another_year(self):
        # Mondays alone don't rest, and none from March 6, 2000 to February 26, 2001.
        told = closings(on(2000, 3, 6), 52)
        due = [on(2000, 3, 5), on(2001, 3, 5), on(2000, 2, 28), on(2000, 2, 28)]
        self.assertEqual([deadline(*told, start=on(2000, 3, 4), rest=rest) for rest in range(4)], due)

    def test_a_last_day_below_0(self):
        self.assertEqual(deadline(week(5), counts=1, rest=BACK), -1)
        self.assertEqual(deadline(closed(0), week(4, 5), counts=1, rest=BACK), -2)
        self.assertEqual(deadline(yearly(12, 31), yearly(12, 30), closed(0), counts=1, rest=BACK), -3)
        self.assertEqual(deadline(closed(0), easters(0), counts=1, rest=BACK), -1)
        # All of January, 2000 rests.
        self.assertEqual(deadline(*[closed(day) for day in range(31)], start=29, rest=ON_IN_MONTH), -1)
        self.assertEqual(deadline(*[closed(day) for day in range(31)], start=29, rest=ON), 31)

    def test_far_below_0(self):
        # The Mondays in 1999, of which the last is -5; those of the year before go on.
        told = [week(1, 2, 3, 4, 5, 6), yearly(12, 27), yearly(12, 20), yearly(12, 13), easters(1)]
        self.assertEqual(deadline(*told, counts=1, rest=BACK), on(1999, 12, 6))


def is_rest(told, day):
    date = ZERO + datetime.timedelta(day)
    for call in told:
        if call[0] == 7 and date.weekday() in call[2:]:
            return True
        if call[0] == 8 and (date.month, date.day) == (call[1], call[2]):
            return True
        if call[0] == 9 and date == easter_date(date.year) + datetime.timedelta(call[1]):
            return True
        if call[0] == 10 and call[1] == day:
            return True
    return False


def easter_date(year):
    """By the golden number and the epact, another way than the one told."""
    golden = year % 19 + 1
    century = year // 100 + 1
    skipped = 3 * century // 4 - 12
    corrected = (8 * century + 5) // 25 - 5
    sunday = 5 * year // 4 - skipped - 10
    epact = (11 * golden + 20 + corrected - skipped) % 30
    if epact == 25 and golden > 11 or epact == 24:
        epact += 1
    full = 44 - epact
    if full < 21:
        full += 30
    full += 7 - (sunday + full) % 7
    return datetime.date(year, 3, 1) + datetime.timedelta(full - 1)


def next_working(told, day):
    for away in range(1, 400):
        if not is_rest(told, day + away):
            return day + away
    return None


def last_before(told, day):
    for away in range(1, 400):
        if not is_rest(told, day - away):
            return day - away
    return None


class NoLastDay(unittest.TestCase):
    """Mondays alone don't rest, and many of those neither."""

    def test_399_days_onward(self):
        # Monday, January 3, 2000, itself and the 56 behind it rest; the next is 399 days away.
        start = MONDAY - 1
        told = closings(MONDAY, 57)
        self.assertEqual(deadline(*told, start=start, rest=ON), MONDAY + 399)
        self.assertEqual(deadline(*told, start=start, rest=ON_IN_MONTH), -5)
        self.assertEqual(deadline(*told, start=start, rest=STAYS), MONDAY)
        self.assertEqual(deadline(*told, start=start, rest=BACK), -5)

    def test_400_days_onward(self):
        # From Sunday on the first Monday that doesn't rest is 400 days away.
        start = MONDAY - 2
        told = closings(MONDAY, 57)
        self.assertIsNone(deadline(*told, start=start, rest=ON))
        # That there is one before doesn't help.
        self.assertIsNone(deadline(*told, start=start, rest=ON_IN_MONTH))
        self.assertEqual(deadline(*told, start=start, rest=BACK), -5)
        self.assertEqual(deadline(*told, start=start, rest=STAYS), MONDAY - 1)

    def test_399_and_400_days_back(self):
        first = MONDAY + 7 * 100
        told = closings(first, 57)
        last = first + 7 * 56
        self.assertEqual(deadline(*told, start=last - 1, rest=BACK), first - 7)
        self.assertEqual(last - (first - 7), 399)
        self.assertIsNone(deadline(*told, start=last, rest=BACK))
        self.assertEqual(deadline(*told, start=last, rest=STAYS), last + 1)

    def test_the_next_is_in_another_month_and_there_is_none_before(self):
        first = MONDAY + 7 * 100
        told = closings(first, 57)
        last = first + 7 * 56
        end = last + 1
        onward = deadline(*told, start=end - 1, rest=ON)
        self.assertEqual(onward, last + 7)
        same = (ZERO + datetime.timedelta(end)).month == (ZERO + datetime.timedelta(onward)).month
        self.assertEqual(deadline(*told, start=end - 1, rest=ON_IN_MONTH), onward if same else None)

    def test_none_before_at_the_end_of_a_month(self):
        # The last Monday that rests is a month's last, so that the next is in another month.
        for first in range(MONDAY, MONDAY + 7 * 60, 7):
            end = ZERO + datetime.timedelta(first + 7 * 56 + 1)
            behind = end + datetime.timedelta(6)
            if end.month != behind.month:
                told = closings(first, 57)
                start = first + 7 * 56
                self.assertIsNone(deadline(*told, start=start, rest=ON_IN_MONTH))
                self.assertEqual(deadline(*told, start=start, rest=ON), start + 7)
                return
        self.fail("there's no such month")


class WorkingDays(unittest.TestCase):
    def test_from_the_first_day_on(self):
        # January 7, 2000 is a Friday.
        start = on(2000, 1, 7)
        told = {"start": start, "unit": WORKING}
        self.assertEqual(deadline(week(5, 6), **told, many=1), on(2000, 1, 10))
        self.assertEqual(deadline(week(5, 6), **told, many=1, counts=1), start)
        self.assertEqual(deadline(week(5, 6), **told, many=5), on(2000, 1, 14))
        self.assertEqual(deadline(week(5, 6), **told, many=6), on(2000, 1, 17))
        self.assertEqual(deadline(week(5, 6), **told, many=6, counts=1), on(2000, 1, 14))

    def test_the_events_day_rests(self):
        self.assertEqual(deadline(week(5, 6), start=0, unit=WORKING, many=1, counts=1), 2)
        self.assertEqual(deadline(week(5, 6), start=0, unit=WORKING, many=1), 2)

    def test_no_days_of_rest(self):
        self.assertEqual(deadline(start=60000, unit=WORKING, many=999), 60999)
        self.assertEqual(deadline(start=60000, unit=WORKING, many=999, counts=1), 60998)

    def test_the_rule_for_an_end_says_nothing(self):
        for rest in range(4):
            self.assertEqual(deadline(week(5, 6), start=6, unit=WORKING, many=2, rest=rest), on(2000, 1, 11))

    def test_one_a_week(self):
        self.assertEqual(deadline(week(1, 2, 3, 4, 5, 6), start=0, unit=WORKING, many=999), MONDAY + 7 * 998)

    def test_looked_for_on_12000_days(self):
        # Sundays alone don't rest, of them none from 60 days before Easter to 60 behind it, and few others.
        told = [week(0, 1, 2, 3, 4, 5)] + [easters(day) for day in range(-56, 57, 7)]
        told += [yearly(8, 1 + k) for k in range(31)] + [yearly(9, 1 + k) for k in range(9)]
        working = [day for day in range(0, 15000) if not is_rest(told, day)]
        looked = [day for day in working if day < 12000]
        many = len(looked)
        self.assertLess(many, 999)
        self.assertEqual(deadline(*told, start=0, unit=WORKING, many=many, counts=1), looked[-1])
        self.assertIsNone(deadline(*told, start=0, unit=WORKING, many=many + 1, counts=1))
        # The last day that's looked at, and the one behind it, as the event's day moves.
        then = working[many]
        self.assertEqual(deadline(*told, start=then - 11999, unit=WORKING, counts=1,
                                  many=sum(1 for day in working if then - 11999 <= day <= then)), then)
        self.assertIsNone(deadline(*told, start=then - 12000, unit=WORKING, counts=1,
                                   many=sum(1 for day in working if then - 12000 <= day <= then)))
        self.assertEqual(deadline(*told, start=then - 12000, unit=WORKING, counts=0,
                                  many=sum(1 for day in working if then - 11999 <= day <= then)), then)


class Rests(unittest.TestCase):
    def rests(self, told, day):
        """Whether a day rests: whether an end on it goes on."""
        return deadline(*told, start=day, counts=1, rest=ON) != day

    def test_week(self):
        # January 3, 2000 is a Monday.
        for weekday in range(7):
            found = [day for day in range(2, 16) if self.rests([week(weekday)], day)]
            self.assertEqual(found, [2 + weekday, 9 + weekday])

    def test_the_week_told_last(self):
        self.assertTrue(self.rests([week(0), week(5)], 0))
        self.assertFalse(self.rests([week(5), week(0)], 0))
        self.assertFalse(self.rests([week(5), week()], 0))
        self.assertTrue(self.rests([week(5), week(7)], 0))

    def test_yearly(self):
        told = [yearly(12, 25), yearly(1, 1)]
        for year in (2000, 2001, 2100, 2150):
            self.assertTrue(self.rests(told, on(year, 12, 25)))
            self.assertTrue(self.rests(told, on(year, 1, 1)))
            self.assertFalse(self.rests(told, on(year, 12, 24)))
            self.assertFalse(self.rests(told, on(year, 12, 26)))
            self.assertFalse(self.rests(told, on(year, 1, 25)))

    def test_february_29_in_leap_years_alone(self):
        told = [yearly(2, 29)]
        self.assertTrue(self.rests(told, on(2000, 2, 29)))
        self.assertTrue(self.rests(told, on(2004, 2, 29)))
        for year in (2001, 2100):
            self.assertFalse(self.rests(told, on(year, 2, 28)))
            self.assertFalse(self.rests(told, on(year, 3, 1)))

    def test_easters(self):
        told = [easters(-2), easters(1), easters(60), easters(-60)]
        for year in (2000, 2024, 2025, 2100, 2163):
            day = (easter_date(year) - ZERO).days
            found = [away for away in range(-61, 62) if self.rests(told, day + away)]
            self.assertEqual(found, [-60, -2, 1, 60])

    def test_closed(self):
        found = [day for day in range(95, 106) if self.rests([closed(100), closed(103)], day)]
        self.assertEqual(found, [100, 103])
        self.assertTrue(self.rests([closed(60000)], 60000))

    def test_any_of_them(self):
        chosen = random.Random(5)
        for turn in range(60):
            told = [week(*sorted(chosen.sample(range(7), chosen.randrange(5))))]
            told += [yearly(chosen.randrange(1, 13), chosen.randrange(1, 29)) for k in range(chosen.randrange(9))]
            told += [easters(chosen.randrange(-60, 61)) for k in range(chosen.randrange(9))]
            start = chosen.randrange(60001)
            told += [closed(min(60000, start + chosen.randrange(9))) for k in range(chosen.randrange(5))]
            many = chosen.randrange(1, 60)
            working = [day for day in range(start + 1, start + 400) if not is_rest(told, day)]
            with self.subTest(told=told, start=start, many=many):
                self.assertEqual(deadline(*told, start=start, unit=WORKING, many=many), working[many - 1])
                end = start + many
                for rest, due in ((ON, next_working(told, end)), (BACK, last_before(told, end))):
                    due = due if is_rest(told, end) else end
                    self.assertEqual(deadline(*told, start=start, many=many, rest=rest), due)


if __name__ == "__main__":
    unittest.main()
