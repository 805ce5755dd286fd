"""The calls on one house of laws, and what they answer."""

from casedecided.forms import BEGINS, CLOSED, DEFINE, EASTERS, FIRST, NAME, ORDER, PART, RULE, WAY, WEEK, YEARLY
from casedecided.forms import read_call
from casedecided.house import Definition, House, Rule, Scale, Way
from casedecided.rests import tell_closed, tell_easters, tell_way, tell_week, tell_yearly
from casedecided.rules import tell_first, tell_order, tell_rule
from casedecided.scales import brackets_of, tell_scale
from casedecided.words import tell_definition, tell_name, tell_part


def scale_of(numbers, row):
    return Scale(numbers[0], numbers[1], numbers[2], numbers[3], numbers[4], brackets_of(row))


def tell(house, number, numbers, row):
    """The one number that a call answers which tells something of the house."""
    if number == PART:
        return tell_part(house, numbers[0], row)
    if number == DEFINE:
        return tell_definition(house, Definition(numbers[0], numbers[1], numbers[2], numbers[3], row))
    if number == NAME:
        return tell_name(house, numbers[0], numbers[1], row)
    if number == ORDER:
        return tell_order(house, numbers[0], numbers[1], numbers[2])
    if number == RULE:
        return tell_rule(house, Rule(numbers[0], numbers[1], numbers[2], numbers[3], numbers[4], numbers[5], row))
    if number == FIRST:
        return tell_first(house, numbers[0], numbers[1])
    if number == WEEK:
        return tell_week(house, row)
    if number == YEARLY:
        return tell_yearly(house, numbers[0], numbers[1])
    if number == EASTERS:
        return tell_easters(house, numbers[0])
    if number == CLOSED:
        return tell_closed(house, numbers[0])
    if number == WAY:
        return tell_way(house, Way(numbers[0], numbers[1], numbers[2]))
    # No other is left: read_call lets only known calls through.
    return tell_scale(house, scale_of(numbers, row))


def answers(calls):
    """What the calls answer: for each, in order, how many numbers, then these."""
    house = House()
    found = []
    place = 0
    while place < len(calls):
        call = read_call(calls, place)
        place = call.behind
        if call.number == BEGINS:
            house = House()
            answered = [0]
        else:
            answered = [tell(house, call.number, call.numbers, call.row)]
        found.append(len(answered))
        found.extend(answered)
    return found
