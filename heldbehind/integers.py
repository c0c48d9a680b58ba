"""What counts as an integer, an index or an order of them, and tuples (top, bottom) in lowest terms."""

from math import gcd


def is_integer(value):
    """Whether any value is an integer: an `int` that is not a `bool`."""
    return isinstance(value, int) and not isinstance(value, bool)


def is_between(value, least, greatest):
    """Whether any value is an integer from least to greatest."""
    return is_integer(value) and least <= value <= greatest


def is_index(value, many):
    """Whether any value is an integer from 0 to many - 1."""
    return is_between(value, 0, many - 1)


def are_different(values, many):
    """Whether the items of a list are different integers from 0 to many - 1."""
    return all([is_index(value, many) for value in values]) and len(set(values)) == len(values)


def is_order(value):
    """Whether any value is a non-empty list of all integers from 0 to its length - 1."""
    return isinstance(value, list) and len(value) > 0 and are_different(value, len(value))


def lowest(top, bottom):
    """The tuple (top, bottom) without a common divisor, for a bottom from 1 on."""
    divisor = gcd(top, bottom)
    return (top // divisor, bottom // divisor)


def mixed(weight, share, other_weight, other_share):
    """The mean of two shares with these weights, in lowest terms."""
    top = weight * share[0] * other_share[1] + other_weight * other_share[0] * share[1]
    bottom = (weight + other_weight) * share[1] * other_share[1]
    return lowest(top, bottom)
