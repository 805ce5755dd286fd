"""The calendar: day 0 is January 1, 2000, a Saturday."""

FIRST_YEAR = 2000
FIRST_WEEKDAY = 5
WEEK_DAYS = 7
FEBRUARY = 2
MONTH_DAYS = (31, 28, 31, 30, 31, 30, 31, 31, 30, 31, 30, 31)
# The calendar repeats behind so many years, which have so many days.
CYCLE_YEARS = 400
CYCLE_DAYS = 146097


class Date:
    """A day by its year, month and number in that month."""

    def __init__(self, year, month, day):
        self.year = year
        self.month = month
        self.day = day


def is_leap(year):
    return year % 4 == 0 and (year % 100 != 0 or year % 400 == 0)


def month_days(year, month):
    """How many days a month has."""
    if month == FEBRUARY and is_leap(year):
        return MONTH_DAYS[month - 1] + 1
    return MONTH_DAYS[month - 1]


def leap_years_up_to(year):
    return year // 4 - year // 100 + year // 400


def new_year(year):
    """The day that a year's January 1 is."""
    leaps = leap_years_up_to(year - 1) - leap_years_up_to(FIRST_YEAR - 1)
    return (year - FIRST_YEAR) * 365 + leaps


def year_of(day):
    # By the years' mean length this is the day's year, or one beside it.
    year = FIRST_YEAR + day * CYCLE_YEARS // CYCLE_DAYS
    while new_year(year) > day:
        year = year - 1
    while new_year(year + 1) <= day:
        year = year + 1
    return year


def date_of(day):
    year = year_of(day)
    left = day - new_year(year)
    month = 1
    while left >= month_days(year, month):
        left = left - month_days(year, month)
        month = month + 1
    return Date(year, month, left + 1)


def day_of(year, month, day):
    """The day that this date is."""
    ahead = sum([month_days(year, number) for number in range(1, month)])
    return new_year(year) + ahead + day - 1


def weekday_of(day):
    """The day of the week, 0 Monday to 6 Sunday."""
    return (day + FIRST_WEEKDAY) % WEEK_DAYS


def easter_of(year):
    """The day that a year's Easter is; the letters are those of the rule."""
    a = year % 19
    b = year // 100
    c = year % 100
    h = (19 * a + b - b // 4 - (b - (b + 8) // 25 + 1) // 3 + 15) % 30
    l = (32 + 2 * (b % 4) + 2 * (c // 4) - h - c % 4) % 7
    m = (a + 11 * h + 22 * l) // 451
    n = h + l + 114 - 7 * m
    return day_of(year, n // 31, n % 31 + 1)
