"""What is told of rules and of which goes before which."""

from casedecided.checks import ALREADY, MISSING, WRONG
from casedecided.checks import has, is_span, is_statement, keep
from casedecided.house import DATE, RANK, SPECIAL

GREATEST_RANK = 9
LAST_DATE = 99999
MOST_CONDITIONS = 5
ROOM_FOR_RULES = 12


def tell_order(house, one, two, three):
    """0, if each of the three is told just once."""
    if sorted([one, two, three]) != [RANK, SPECIAL, DATE]:
        return WRONG
    house.order = (one, two, three)
    return 0


def are_conditions(numbers):
    """Whether these are statements, not too many, and none of them twice."""
    if len(numbers) > MOST_CONDITIONS or len(set(numbers)) != len(numbers):
        return False
    return all([is_statement(number) for number in numbers])


def is_rule(rule):
    if not 0 <= rule.rank <= GREATEST_RANK or not 0 <= rule.date <= LAST_DATE:
        return False
    if not is_statement(rule.says) or not is_span(rule.start, rule.end):
        return False
    return are_conditions(rule.conditions)


def tell_rule(house, rule):
    """The rule's number."""
    if not is_rule(rule):
        return WRONG
    return keep(house.rules, rule, ROOM_FOR_RULES)


def tell_first(house, rule, other):
    """0, if it can be told that the one rule goes before the other."""
    if not has(house.rules, rule) or not has(house.rules, other):
        return MISSING
    if rule == other or (rule, other) in house.firsts or (other, rule) in house.firsts:
        return ALREADY
    house.firsts.append((rule, other))
    return 0
