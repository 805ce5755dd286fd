"""Days of rest, and the last day of a span."""

from casedecided.dates import date_of, day_of, easter_of, month_days, weekday_of, year_of

WEEKS = 1
WORKING_DAYS = 4
# Of days and weeks: how many days one has; of months and years: how many months.
UNIT_LENGTHS = (1, 7, 1, 12)
YEAR_MONTHS = 12

END_STAYS = 0
END_GOES_ON = 1
END_GOES_BACK = 2

FIRST_OF_NEXT = 1
LAST_TO_LAST = 2

FARTHEST_LOOKED = 399
WORKING_DAYS_LOOKED = 12000


class Rests:
    """The days of rest; those that come in each year are worked out when their year is first looked at."""

    def __init__(self, house):
        self.week = house.week
        self.yearly = house.yearly
        self.easters = house.easters
        self.closed = house.closed
        self.years = {}


def rests_of_year(rests, year):
    """The days of rest of a year that come in each year, as a dict of True."""
    found = {}
    for date in rests.yearly:
        if date[1] <= month_days(year, date[0]):
            found[day_of(year, date[0], date[1])] = True
    easter = easter_of(year)
    for behind in rests.easters:
        found[easter + behind] = True
    return found


def is_rest(rests, day):
    if weekday_of(day) in rests.week or day in rests.closed:
        return True
    year = year_of(day)
    if year not in rests.years:
        rests.years[year] = rests_of_year(rests, year)
    return day in rests.years[year]


def nearest_working_day(rests, day, step):
    """The nearest day that's none of rest, onward (step 1) or back (step -1); None if it's too far."""
    for away in range(1, FARTHEST_LOOKED + 1):
        if not is_rest(rests, day + step * away):
            return day + step * away
    return None


def is_same_month(day, other):
    one = date_of(day)
    two = date_of(other)
    return one.year == two.year and one.month == two.month


def end_off_rest(rests, day, rule):
    """What becomes of an end; None if there's no last day."""
    if rule == END_STAYS or not is_rest(rests, day):
        return day
    if rule == END_GOES_BACK:
        return nearest_working_day(rests, day, -1)
    onward = nearest_working_day(rests, day, 1)
    if rule == END_GOES_ON or onward is None or is_same_month(day, onward):
        return onward
    return nearest_working_day(rests, day, -1)


def months_behind(day, months, rule):
    """The day so many months behind a day."""
    date = date_of(day)
    ahead = date.month - 1 + months
    year = date.year + ahead // YEAR_MONTHS
    month = ahead % YEAR_MONTHS + 1
    last = month_days(year, month)
    if rule == LAST_TO_LAST and date.day == month_days(date.year, date.month):
        return day_of(year, month, last)
    if date.day > last and rule == FIRST_OF_NEXT:
        return day_of(year, month, last) + 1
    return day_of(year, month, min(date.day, last))


def last_working_day(rests, begin, many):
    """The last of so many days, from a day on, that don't rest; None if it's too far."""
    left = many
    for day in range(begin, begin + WORKING_DAYS_LOOKED):
        if not is_rest(rests, day):
            left = left - 1
        if left == 0:
            return day
    return None


def last_day(rests, way, event, unit, many):
    """The last day of a span behind an event's day; None if there's none."""
    # That the event's own day counts is told by 1, and all ends so much earlier.
    if unit == WORKING_DAYS:
        return last_working_day(rests, event + 1 - way.counts, many)
    length = many * UNIT_LENGTHS[unit]
    if unit <= WEEKS:
        end = event + length
    else:
        end = months_behind(event, length, way.months)
    return end_off_rest(rests, end - way.counts, way.rest)
