"""Fractions: tuples of two numbers, above and below, in lowest terms."""

ZERO = (0, 1)


def common_divisor(one, other):
    """The greatest number that goes into both."""
    while other != 0:
        rest = one % other
        one = other
        other = rest
    return one


def fraction(above, below):
    divisor = common_divisor(above, below)
    return (above // divisor, below // divisor)


def added(one, other):
    return fraction(one[0] * other[1] + other[0] * one[1], one[1] * other[1])
