"""What is told of scales."""

from casedecided.checks import WRONG, is_amount, is_rate, keep

GREATEST_UNIT = 1000000
MOST_BRACKETS = 8
BRACKET_NUMBERS = 3
ROOM_FOR_SCALES = 6


def brackets_of(row):
    """A row's brackets: of each from where it is, and its rate's two numbers."""
    return [tuple(row[k:k + BRACKET_NUMBERS]) for k in range(0, len(row), BRACKET_NUMBERS)]


def is_bracket(bracket):
    # A row that ends amid a bracket has no whole number of them.
    if len(bracket) != BRACKET_NUMBERS:
        return False
    return is_amount(bracket[0]) and is_rate(bracket[1], bracket[2])


def are_brackets(brackets):
    """Whether there are some, not too many, the first from 0, and rising."""
    if not 1 <= len(brackets) <= MOST_BRACKETS:
        return False
    if not all([is_bracket(bracket) for bracket in brackets]):
        return False
    starts = [bracket[0] for bracket in brackets]
    return starts[0] == 0 and starts == sorted(set(starts))


def are_bounds(least, most):
    """Whether a fee can lie within these; a most of 0 is none."""
    if not is_amount(least) or not is_amount(most):
        return False
    return most == 0 or most >= least


def tell_scale(house, scale):
    """The scale's number."""
    if not 1 <= scale.unit <= GREATEST_UNIT or not are_bounds(scale.least, scale.most):
        return WRONG
    if not are_brackets(scale.brackets):
        return WRONG
    return keep(house.scales, scale, ROOM_FOR_SCALES)
