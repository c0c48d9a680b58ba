"""Sequences of a forest: their number, their indexes, and one behind the other."""

from math import factorial

from heldbehind.errors import InvalidIndex, InvalidSequence
from heldbehind.forests import check_forest, sizes
from heldbehind.integers import is_index
from heldbehind.left import AllLeft, can_be_next, index_by_ways, nth_by_ways


def is_sequence(forest, value):
    """Whether any value is a sequence of a forest."""
    check_forest(forest)
    if not isinstance(value, list) or len(value) != len(forest):
        return False
    done = [False] * len(forest)
    for thing in value:
        if not is_index(thing, len(forest)) or done[thing]:
            return False
        holder = forest[thing]
        if holder is not None and not done[holder]:
            return False
        done[thing] = True
    return True


def check_sequence(forest, sequence):
    """Raise an error for a value that is no forest, or one that is no sequence of it."""
    if not is_sequence(forest, sequence):
        raise InvalidSequence()


def count_sequences(forest):
    """The number of the sequences of a forest."""
    size_of = sizes(forest)
    found = factorial(len(size_of))
    for size in size_of:
        found = found // size
    return found


def nth_sequence(forest, index):
    """The sequence with an index."""
    many = count_sequences(forest)
    if not is_index(index, many):
        raise InvalidIndex()
    return nth_by_ways(AllLeft(forest, many), index)


def sequence_index(forest, sequence):
    """The index of a sequence."""
    check_sequence(forest, sequence)
    return index_by_ways(AllLeft(forest, count_sequences(forest)), sequence)


def next_sequence(forest, sequence):
    """The next sequence behind one, or None for the last one."""
    check_sequence(forest, sequence)
    return _next_behind(forest, sequence)


def sequences(forest):
    """A generator of all sequences of a forest in their order."""
    check_forest(forest)
    now = _least_order(forest, list(range(len(forest))))
    while now is not None:
        # A copy, as whoever gets it may change it.
        yield list(now)
        now = _next_behind(forest, now)


def _next_behind(forest, sequence):
    """The next sequence behind one, or None: with as long a beginning of it as can be."""
    left = {}
    for place in range(len(sequence) - 1, -1, -1):
        left[sequence[place]] = True
        greater = [thing for thing in can_be_next(forest, left) if thing > sequence[place]]
        if len(greater) > 0:
            least = min(greater)
            rest = [thing for thing in left if thing != least]
            return sequence[:place] + [least] + _least_order(forest, rest)
    return None


def _least_order(forest, things):
    """The least list of these things in which each stands behind its holder, if that is one of them."""
    left = {thing: True for thing in things}
    found = []
    while len(left) > 0:
        least = min(can_be_next(forest, left))
        del left[least]
        found.append(least)
    return found
