"""What is told of rates, amounts, events and remedies."""

from casedecided.checks import ALREADY, FULL, MISSING, WRONG
from casedecided.checks import has, is_amount, is_day, is_named_statement, is_rate, keep

# Of each unit, by its number: days, weeks, months, years, working days.
LONGEST_SPANS = (9999, 999, 999, 99, 999)
ROOM_FOR_RATES = 8
ROOM_FOR_AMOUNTS = 10
ROOM_FOR_EVENTS = 10
ROOM_FOR_REMEDIES = 8


def tell_rate(house, start, above, below):
    """How many rates there are."""
    if not is_day(start) or not is_rate(above, below):
        return WRONG
    if len(house.rates) > 0 and start <= house.rates[-1][0]:
        return ALREADY
    if keep(house.rates, (start, above, below), ROOM_FOR_RATES) == FULL:
        return FULL
    return len(house.rates)


def tell_amount(house, number):
    """The amount's number among the amounts."""
    if not is_amount(number):
        return WRONG
    return keep(house.amounts, number, ROOM_FOR_AMOUNTS)


def tell_event(house, day):
    """The event's number."""
    if not is_day(day):
        return WRONG
    return keep(house.events, day, ROOM_FOR_EVENTS)


def is_length(unit, many):
    """Whether so many of a unit can be a span."""
    return has(LONGEST_SPANS, unit) and 1 <= many <= LONGEST_SPANS[unit]


def has_all(house, remedy):
    """Whether the scale, amount, event and way that a remedy names have been told."""
    if not has(house.scales, remedy.scale) or not has(house.amounts, remedy.amount):
        return False
    return has(house.events, remedy.event) and has(house.ways, remedy.way)


def tell_remedy(house, remedy):
    """The remedy's number."""
    if not is_named_statement(remedy.statement) or not is_length(remedy.unit, remedy.many):
        return WRONG
    if not has_all(house, remedy):
        return MISSING
    return keep(house.remedies, remedy, ROOM_FOR_REMEDIES)
