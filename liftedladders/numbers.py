"""Integers, and fractions as tuples (over, under) in lowest terms."""

from math import gcd

from liftedladders.errors import BadNumber


def is_whole(value):
    """Whether any value is an integer."""
    return isinstance(value, int) and not isinstance(value, bool)


def is_integer(value, lowest, highest):
    """Whether any value is an integer from lowest to highest."""
    return isinstance(value, int) and not isinstance(value, bool) and lowest <= value <= highest


def ascends(values):
    """Whether each one of some values is above the one ahead of it."""
    return all([values[at - 1] < values[at] for at in range(1, len(values))])


def is_fraction(value):
    """Whether any value is a fraction."""
    if not isinstance(value, tuple) or len(value) != 2:
        return False
    over, under = value
    return is_whole(over) and is_whole(under) and under > 0 and gcd(over, under) == 1


def fraction(over, under):
    """The fraction of two integers."""
    if under == 0:
        raise BadNumber(under)
    shared = gcd(over, under)
    if under < 0:
        shared = -shared
    return (over // shared, under // shared)


def added(one, other):
    """The sum of two fractions."""
    return fraction(one[0] * other[1] + other[0] * one[1], one[1] * other[1])


def less(one, other):
    """The first fraction less the second one."""
    return fraction(one[0] * other[1] - other[0] * one[1], one[1] * other[1])


def multiplied(one, other):
    """The product of two fractions."""
    return fraction(one[0] * other[0], one[1] * other[1])


def is_above(one, other):
    """Whether the first fraction is the greater one."""
    return one[0] * other[1] > other[0] * one[1]
