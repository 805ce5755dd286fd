"""What is asked of a day's law: how it stands with a statement, why it holds, and on which day it's otherwise."""

from casedecided.checks import NONE_SUCH, WRONG, is_day, is_statement
from casedecided.facts import facts_of, first_proof, proved_on
from casedecided.shown import Shown, applies, law_on, rules_against, rules_for, show, shows
from casedecided.strict import STRICT, are_all_in

NEITHER = 0
HOLDS = 1
OPPOSITE_HOLDS = 2
UNDECIDED = 3
LEFT_OPEN = 4
BOTH = 5

A_FACT = 0
STRICTLY = 1
BY_RULE = 2

DOES_NOT_HOLD = 0
GOES_BEFORE = 1


class Decided:
    """A day's law, and what is shown by it."""

    def __init__(self, law, shown):
        self.law = law
        self.shown = shown


def decided_on(house, day):
    law = law_on(house, day)
    return Decided(law, show(law))


def any_applies(decided, statement):
    """Whether there's a rule for a statement whose conditions are all shown to hold."""
    return any([applies(decided.law, decided.shown, number) for number in rules_for(decided.law, statement)])


def asked(decided, statement):
    """How it stands with a statement, the first that's so."""
    strictly = decided.law.strictly
    holding = decided.shown.holding
    failing = decided.shown.failing
    if statement in strictly and -statement in strictly:
        return BOTH
    if statement in holding:
        return HOLDS
    if -statement in holding:
        return OPPOSITE_HOLDS
    if any_applies(decided, statement) and any_applies(decided, -statement):
        return UNDECIDED
    # What no fact and no rule names has no rule for it, so it's among these too.
    if statement in failing and -statement in failing:
        return NEITHER
    return LEFT_OPEN


def tell_facts(house, day):
    """How many facts a day has, then they."""
    if not is_day(day):
        return [WRONG]
    facts = facts_of(proved_on(house, day))
    return [len(facts)] + facts


def ask(house, day, statement):
    if not is_day(day) or not is_statement(statement):
        return [WRONG]
    return [asked(decided_on(house, day), statement)]


def first_strict_rule(law, statement):
    """The first strict rule that says it and whose conditions follow strictly."""
    for number in rules_for(law, statement):
        if law.rules[number].kind == STRICT and are_all_in(law.rules[number].conditions, law.strictly):
            return number
    return None


def before(rounds, turn):
    """Of statements with the rounds in which they were shown, those shown in the rounds before this one."""
    found = {}
    for statement in rounds:
        if rounds[statement] < turn:
            found[statement] = rounds[statement]
    return found


def answer_to(law, shown, number, other):
    """Why a rule shows what it says though another one stands against it."""
    failed = [condition for condition in law.rules[other].conditions if condition in shown.failing]
    if len(failed) > 0:
        return [other, DOES_NOT_HOLD, failed[0]]
    return [other, GOES_BEFORE, law.ahead[(number, other)]]


def reason_by_rule(decided, statement):
    """The first rule that shows a statement in the first round, and the answer to each against it."""
    law = decided.law
    turn = decided.shown.holding[statement]
    shown = Shown(before(decided.shown.holding, turn), before(decided.shown.failing, turn))
    against = rules_against(law, statement)
    showing = [number for number in rules_for(law, statement) if shows(law, shown, number, against)]
    found = [BY_RULE, showing[0], len(against)]
    for other in against:
        found.extend(answer_to(law, shown, showing[0], other))
    return found


def reason(decided, statement):
    """Why a statement holds, the first that's so."""
    if statement in facts_of(decided.law.proved):
        return [A_FACT, first_proof(decided.law.proved, statement)]
    if statement in decided.law.strictly:
        return [STRICTLY, first_strict_rule(decided.law, statement)]
    return reason_by_rule(decided, statement)


def why(house, day, statement):
    if not is_day(day) or not is_statement(statement):
        return [WRONG]
    decided = decided_on(house, day)
    if asked(decided, statement) not in (HOLDS, BOTH):
        return [NONE_SUCH]
    return reason(decided, statement)
