"""A day's case, and what is owed."""

from casedecided.asking import HOLDS, asked, decided_on
from casedecided.checks import WRONG, is_day
from casedecided.fees import fee_by, interest_on
from casedecided.quotients import ZERO, added
from casedecided.spans import Rests, last_day


def remedies_on(house, day):
    """The numbers of the remedies whose statements hold on a day."""
    decided = decided_on(house, day)
    return [number for number in range(len(house.remedies))
            if asked(decided, house.remedies[number].statement) == HOLDS]


def fee_of(house, remedy):
    return fee_by(house.scales[remedy.scale], house.amounts[remedy.amount])


def interest_of(house, remedy, day):
    """The interest on a remedy's fee up to a day."""
    return interest_on(fee_of(house, remedy), house.rates, house.events[remedy.event], day)


def claimed_up_to(house, rests, remedy):
    """1 and the last day, or 0 and 0 if there's none."""
    last = last_day(rests, house.ways[remedy.way], house.events[remedy.event], remedy.unit, remedy.many)
    if last is None:
        return [0, 0]
    return [1, last]


def tell_case(house, day):
    """How many remedies, then of each its number, fee, interest, and the last day on which it may be claimed."""
    if not is_day(day):
        return [WRONG]
    numbers = remedies_on(house, day)
    rests = Rests(house)
    found = [len(numbers)]
    for number in numbers:
        remedy = house.remedies[number]
        found.extend([number, fee_of(house, remedy)])
        found.extend(interest_of(house, remedy, day))
        found.extend(claimed_up_to(house, rests, remedy))
    return found


def tell_owed(house, day):
    """0, then the fees and interest of a day's case together, as a fraction."""
    if not is_day(day):
        return [WRONG]
    total = ZERO
    for number in remedies_on(house, day):
        remedy = house.remedies[number]
        total = added(total, added((fee_of(house, remedy), 1), interest_of(house, remedy, day)))
    return [0, total[0], total[1]]
