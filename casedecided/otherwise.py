"""How one day's law differs from another's, and when it turns."""

from casedecided.asking import asked, decided_on
from casedecided.checks import NONE_SUCH, WRONG, is_day, is_statement


def statements_spoken_of(house):
    """The statements above 0 that are named or that a rule speaks of, whether or not it's in force, rising."""
    found = [name.statement for name in house.names]
    for rule in house.rules:
        found.append(abs(rule.says))
        found.extend([abs(condition) for condition in rule.conditions])
    return sorted(set(found))


def differs(house, day, other):
    """How many statements are asked otherwise on the one day than on the other, then they, rising."""
    if not is_day(day) or not is_day(other):
        return [WRONG]
    one = decided_on(house, day)
    two = decided_on(house, other)
    found = [statement for statement in statements_spoken_of(house) if asked(one, statement) != asked(two, statement)]
    return [len(found)] + found


def days_of_change(house, day):
    """The later days on which a definition or a rule begins or ends, rising; on others all is as the day before."""
    found = []
    for thing in house.definitions + house.rules:
        found.extend([change for change in (thing.start, thing.end) if change > day])
    return sorted(set(found))


def turns(house, day, statement):
    """The first later day on which a statement is asked otherwise, then how."""
    if not is_day(day) or not is_statement(statement):
        return [WRONG]
    now = asked(decided_on(house, day), statement)
    for later in days_of_change(house, day):
        then = asked(decided_on(house, later), statement)
        if then != now:
            return [later, then]
    return [NONE_SUCH]
