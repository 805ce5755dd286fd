"""The calls on one house of laws, and what they answer."""

from casedecided.asking import ask, tell_facts, why
from casedecided.cases import tell_case, tell_owed
from casedecided.claims import tell_amount, tell_event, tell_rate, tell_remedy
from casedecided.forms import AMOUNT, ASK, BEGINS, BRING, CASE, CLOSED, DEFINE, DIFFERS, EASTERS, EVENT, FACTS, FIRST
from casedecided.forms import NAME, ORDER, OWED, PART, RATE, REMEDY, RULE, SCALE, TAKE, WAY, WEEK, WHY, YEARLY
from casedecided.forms import read_call
from casedecided.house import Definition, House, Proof, Remedy, Rule, Scale, Way
from casedecided.otherwise import differs, turns
from casedecided.rests import tell_closed, tell_easters, tell_way, tell_week, tell_yearly
from casedecided.rules import tell_first, tell_order, tell_rule
from casedecided.scales import brackets_of, tell_scale
from casedecided.words import bring_proof, take_proof, tell_definition, tell_name, tell_part


def scale_of(numbers, row):
    return Scale(numbers[0], numbers[1], numbers[2], numbers[3], numbers[4], brackets_of(row))


def remedy_of(numbers):
    return Remedy(numbers[0], numbers[1], numbers[2], numbers[3], numbers[4], numbers[5], numbers[6])


def tell_words_or_rules(house, number, numbers, row):
    if number == PART:
        return tell_part(house, numbers[0], row)
    if number == DEFINE:
        return tell_definition(house, Definition(numbers[0], numbers[1], numbers[2], numbers[3], row))
    if number == NAME:
        return tell_name(house, numbers[0], numbers[1], row)
    if number == ORDER:
        return tell_order(house, numbers[0], numbers[1], numbers[2])
    if number == RULE:
        return tell_rule(house, Rule(numbers[0], numbers[1], numbers[2], numbers[3], numbers[4], numbers[5], row))
    return tell_first(house, numbers[0], numbers[1])


def tell_days_or_scales(house, number, numbers, row):
    if number == WEEK:
        return tell_week(house, row)
    if number == YEARLY:
        return tell_yearly(house, numbers[0], numbers[1])
    if number == EASTERS:
        return tell_easters(house, numbers[0])
    if number == CLOSED:
        return tell_closed(house, numbers[0])
    if number == WAY:
        return tell_way(house, Way(numbers[0], numbers[1], numbers[2]))
    return tell_scale(house, scale_of(numbers, row))


def tell_claims_or_proofs(house, number, numbers, row):
    if number == RATE:
        return tell_rate(house, numbers[0], numbers[1], numbers[2])
    if number == AMOUNT:
        return tell_amount(house, numbers[0])
    if number == EVENT:
        return tell_event(house, numbers[0])
    if number == BRING:
        return bring_proof(house, Proof(numbers[0], numbers[1], row))
    if number == TAKE:
        return take_proof(house, numbers[0])
    return tell_remedy(house, remedy_of(numbers))


def tell(house, number, numbers, row):
    """The one number that a call answers which tells something of the house."""
    if number <= FIRST:
        return tell_words_or_rules(house, number, numbers, row)
    if number <= SCALE:
        return tell_days_or_scales(house, number, numbers, row)
    return tell_claims_or_proofs(house, number, numbers, row)


def look_up(house, number, numbers):
    """What a call answers which asks something of the house."""
    if number == FACTS:
        return tell_facts(house, numbers[0])
    if number == ASK:
        return ask(house, numbers[0], numbers[1])
    if number == WHY:
        return why(house, numbers[0], numbers[1])
    if number == CASE:
        return tell_case(house, numbers[0])
    if number == OWED:
        return tell_owed(house, numbers[0])
    if number == DIFFERS:
        return differs(house, numbers[0], numbers[1])
    # No other is left: read_call lets only known calls through.
    return turns(house, numbers[0], numbers[1])


def answers(calls):
    """What the calls answer: for each, in order, how many numbers, then these."""
    house = House()
    found = []
    place = 0
    while place < len(calls):
        call = read_call(calls, place)
        place = call.behind
        if call.number == BEGINS:
            house = House()
            answered = [0]
        elif call.number <= REMEDY:
            answered = [tell(house, call.number, call.numbers, call.row)]
        else:
            answered = look_up(house, call.number, call.numbers)
        found.append(len(answered))
        found.extend(answered)
    return found
