"""What is told of days of rest and of ways of counting."""

from casedecided.checks import FULL, WRONG, is_day, keep

LAST_WEEKDAY = 6
MOST_WEEKDAYS = 6
LEAP_YEAR_MONTHS = (31, 29, 31, 30, 31, 30, 31, 31, 30, 31, 30, 31)
FARTHEST_FROM_EASTER = 60
LAST_END_RULE = 3
LAST_MONTHS_RULE = 2
# The days by month and day, those told from Easter and the single ones have this room each.
ROOM_FOR_DAYS = 40
ROOM_FOR_WAYS = 8


def are_weekdays(days):
    """Whether these are days of the week that rise, and not all of them."""
    if len(days) > MOST_WEEKDAYS or days != sorted(set(days)):
        return False
    return all([0 <= day <= LAST_WEEKDAY for day in days])


def tell_week(house, days):
    """How many days of the week rest; those that were told before don't any more."""
    if not are_weekdays(days):
        return WRONG
    house.week = days
    return len(days)


def keep_day(days, day):
    """How many there are, with this one."""
    if keep(days, day, ROOM_FOR_DAYS) == FULL:
        return FULL
    return len(days)


def tell_yearly(house, month, day):
    if not 1 <= month <= len(LEAP_YEAR_MONTHS) or not 1 <= day <= LEAP_YEAR_MONTHS[month - 1]:
        return WRONG
    return keep_day(house.yearly, (month, day))


def tell_easters(house, days):
    if abs(days) > FARTHEST_FROM_EASTER:
        return WRONG
    return keep_day(house.easters, days)


def tell_closed(house, day):
    if not is_day(day):
        return WRONG
    return keep_day(house.closed, day)


def tell_way(house, way):
    """The way's number."""
    if not 0 <= way.rest <= LAST_END_RULE or not 0 <= way.months <= LAST_MONTHS_RULE:
        return WRONG
    return keep(house.ways, way, ROOM_FOR_WAYS)
