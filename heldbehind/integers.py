"""What counts as an integer or an index, and tuples (top, bottom) in lowest terms."""

from math import gcd


def is_integer(value):
    """Whether any value is an integer: an `int` that is not a `bool`."""
    return isinstance(value, int) and not isinstance(value, bool)


def is_index(value, many):
    """Whether any value is an integer from 0 to many - 1."""
    return is_integer(value) and 0 <= value < many


def lowest(top, bottom):
    """The tuple (top, bottom) without a common divisor, for a bottom from 1 on."""
    divisor = gcd(top, bottom)
    return (top // divisor, bottom // divisor)


def mixed(weight, share, other_weight, other_share):
    """The mean of two shares with these weights, in lowest terms."""
    top = weight * share[0] * other_share[1] + other_weight * other_share[0] * share[1]
    bottom = (weight + other_weight) * share[1] * other_share[1]
    return lowest(top, bottom)
