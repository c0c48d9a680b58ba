"""Numbers by powers of q, multiplied and divided by 1 - q ** size.

A list has at its index k the number that belongs to q ** k; what would stand
behind its end is left out. A bracket [size] is 1 - q ** size divided by 1 - q.
So where as many brackets are multiplied as divided by, 1 - q falls out, and
the functions here do in place of brackets.
"""


def times_bracket(counts, size):
    """The list of the numbers multiplied by 1 - q ** size."""
    return [count - lower for count, lower in zip(counts, [0] * size + counts)]


def over_bracket(counts, size):
    """The list of the numbers divided by 1 - q ** size, for a size from 1 on."""
    found = list(counts)
    for power in range(size, len(found)):
        found[power] = found[power] + found[power - size]
    return found
