"""What follows strictly, and which rule goes before which."""

from casedecided.house import RANK, SPECIAL

STRICT = 0
GUARD = 2

BY_NOTHING = 0
BY_TOLD = 1
# Of each of the three, by its number: what is answered if a rule goes before another by it.
BY_THREE = (2, 3, 4)


def are_all_in(statements, found):
    return all([statement in found for statement in statements])


def follows_strictly(rules, statements):
    """What follows from some statements by the strict ones of these rules, as a dict of True."""
    found = {}
    for statement in statements:
        found[statement] = True
    left = [rule for rule in rules if rule.kind == STRICT]
    before = len(left) + 1
    while len(left) < before:
        before = len(left)
        waiting = []
        for rule in left:
            if are_all_in(rule.conditions, found):
                found[rule.says] = True
            else:
                waiting.append(rule)
        left = waiting
    return found


class Ranking:
    """What tells which rule goes before which on a day; rules are here by their numbers."""

    def __init__(self, rules, order, firsts, followings):
        self.rules = rules
        self.order = order
        self.firsts = firsts
        # Of each rule that counts that day, by its number: what follows strictly from its conditions.
        self.followings = followings


def covers(ranking, one, other):
    """Whether all conditions of the other rule follow strictly from those of the one."""
    return are_all_in(ranking.rules[other].conditions, ranking.followings[one])


def lead_by_special(ranking, one, other):
    ahead = covers(ranking, one, other)
    if ahead == covers(ranking, other, one):
        return 0
    return 1 if ahead else -1


def lead(ranking, kind, one, other):
    """Above 0 if this one of the three favours the one rule, below 0 if the other, 0 if it doesn't tell them apart."""
    if kind == RANK:
        return ranking.rules[one].rank - ranking.rules[other].rank
    if kind == SPECIAL:
        return lead_by_special(ranking, one, other)
    return ranking.rules[one].date - ranking.rules[other].date


def goes_before_by(ranking, one, other):
    """By what the one rule goes before the other; by nothing, if it doesn't."""
    if (one, other) in ranking.firsts:
        return BY_TOLD
    if (other, one) in ranking.firsts:
        return BY_NOTHING
    for kind in ranking.order:
        found = lead(ranking, kind, one, other)
        if found > 0:
            return BY_THREE[kind]
        if found < 0:
            return BY_NOTHING
    return BY_NOTHING
