"""The law of a day, and what is shown by it to hold and not to hold, round by round."""

from casedecided.checks import GREATEST_STATEMENT, is_in_force
from casedecided.facts import facts_of, proved_on
from casedecided.strict import BY_NOTHING, GUARD
from casedecided.strict import Ranking, are_all_in, follows_strictly, goes_before_by


class Law:
    """The law of a day, with what is proved by it; rules are here by their numbers."""

    def __init__(self, rules, counting, proved, strictly):
        self.rules = rules
        # The numbers of the rules that are in force.
        self.counting = counting
        self.proved = proved
        # What follows strictly from the facts, as a dict of True.
        self.strictly = strictly
        # Of each pair of rules that say opposites: by what the first goes before the second.
        self.ahead = {}


class Shown:
    """The statements that are shown to hold, and not to hold: of each the round in which it was."""

    def __init__(self, holding, failing):
        self.holding = holding
        self.failing = failing


def opposed_pairs(rules, counting):
    """The pairs of rules that say opposites."""
    pairs = []
    for one in counting:
        for other in counting:
            if rules[one].says == -rules[other].says:
                pairs.append((one, other))
    return pairs


def law_on(house, day):
    """The law of a day, with what is proved by it."""
    counting = [number for number in range(len(house.rules)) if is_in_force(house.rules[number], day)]
    in_force = [house.rules[number] for number in counting]
    proved = proved_on(house, day)
    law = Law(house.rules, counting, proved, follows_strictly(in_force, facts_of(proved)))
    followings = {}
    for number in counting:
        followings[number] = follows_strictly(in_force, house.rules[number].conditions)
    ranking = Ranking(house.rules, house.order, house.firsts, followings)
    for pair in opposed_pairs(house.rules, counting):
        law.ahead[pair] = goes_before_by(ranking, pair[0], pair[1])
    return law


def rules_for(law, statement):
    """The rules that stand for a statement; guards don't."""
    return [number for number in law.counting
            if law.rules[number].says == statement and law.rules[number].kind != GUARD]


def rules_against(law, statement):
    """The rules of any kind that stand against a statement."""
    return [number for number in law.counting if law.rules[number].says == -statement]


def applies(law, shown, number):
    """Whether all conditions of a rule have been shown to hold."""
    return are_all_in(law.rules[number].conditions, shown.holding)


def is_out(law, shown, number):
    """Whether a condition of a rule has been shown not to hold."""
    return any([condition in shown.failing for condition in law.rules[number].conditions])


def is_ahead(law, number, other):
    return law.ahead[(number, other)] != BY_NOTHING


def shows(law, shown, number, against):
    """Whether a rule shows what it says, with these rules against it."""
    if not applies(law, shown, number):
        return False
    return all([is_out(law, shown, other) or is_ahead(law, number, other) for other in against])


def is_beaten(law, shown, number, against):
    """Whether a rule can't show what it says any more."""
    if is_out(law, shown, number):
        return True
    return any([applies(law, shown, other) and not is_ahead(law, number, other) for other in against])


def is_shown_to_hold(law, shown, statement):
    if statement in law.strictly:
        return True
    if -statement in law.strictly:
        return False
    against = rules_against(law, statement)
    return any([shows(law, shown, number, against) for number in rules_for(law, statement)])


def is_shown_to_fail(law, shown, statement):
    if statement in law.strictly:
        return False
    if -statement in law.strictly:
        return True
    against = rules_against(law, statement)
    return all([is_beaten(law, shown, number, against) for number in rules_for(law, statement)])


def all_statements():
    return [number for number in range(-GREATEST_STATEMENT, GREATEST_STATEMENT + 1) if number != 0]


def show(law):
    """What is shown, from nothing on, till a round shows nothing more."""
    shown = Shown({}, {})
    left = all_statements()
    before = len(left) + 1
    turn = 0
    while len(left) < before:
        before = len(left)
        turn = turn + 1
        # A round takes what the rounds before it showed, so what it shows is added behind it.
        holding = [statement for statement in left if is_shown_to_hold(law, shown, statement)]
        failing = [statement for statement in left if is_shown_to_fail(law, shown, statement)]
        for statement in holding:
            shown.holding[statement] = turn
        for statement in failing:
            shown.failing[statement] = turn
        left = [statement for statement in left if statement not in shown.holding and statement not in shown.failing]
    return shown
