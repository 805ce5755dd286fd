"""Fees by a scale, and interest."""

from casedecided.quotients import ZERO, added, fraction

DOWN = 0
UP = 1
NEAR = 2
STEPS = 0
YEAR_DAYS = 365


def fee_in_steps(brackets, amount):
    """The amount by the rate of the last bracket that begins at it or before."""
    begun = [bracket for bracket in brackets if bracket[0] <= amount]
    return fraction(amount * begun[-1][1], begun[-1][2])


def fee_in_slices(brackets, amount):
    """What of the amount lies in each bracket, by that one's rate, added."""
    total = ZERO
    upper = amount
    # From the last one down, each bracket has what lies above it and below the one behind it.
    for bracket in reversed(brackets):
        if bracket[0] < upper:
            total = added(total, fraction((upper - bracket[0]) * bracket[1], bracket[2]))
            upper = bracket[0]
    return total


def rounded(exact, unit, rounding):
    """A fraction rounded to a multiple of a unit."""
    whole = exact[1] * unit
    units = exact[0] // whole
    rest = exact[0] % whole
    if rounding == DOWN or rest == 0:
        return units * unit
    if rounding == UP or 2 * rest > whole:
        return (units + 1) * unit
    # At a half, near goes to the greater of the two, even to the even one.
    if 2 * rest == whole and (rounding == NEAR or units % 2 == 1):
        return (units + 1) * unit
    return units * unit


def fee_by(scale, amount):
    """The fee of an amount by a scale."""
    if scale.slices == STEPS:
        exact = fee_in_steps(scale.brackets, amount)
    else:
        exact = fee_in_slices(scale.brackets, amount)
    found = max(rounded(exact, scale.unit, scale.rounding), scale.least)
    if scale.most == 0:
        return found
    return min(found, scale.most)


def days_of_rate(rates, place, start, end):
    """On how many days, from start up to (not with) end, this one of the rates is the rate."""
    begin = max(start, rates[place][0])
    behind = end
    if place + 1 < len(rates):
        behind = min(end, rates[place + 1][0])
    return max(0, behind - begin)


def interest_on(fee, rates, start, end):
    """Interest on a fee from a day up to (not with) another, as a fraction."""
    total = ZERO
    for place, rate in enumerate(rates):
        days = days_of_rate(rates, place, start, end)
        total = added(total, fraction(fee * days * rate[1], rate[2] * YEAR_DAYS))
    return total
