"""Turned pairs and drops of sequences, and the sequences by their turned pairs."""

from heldbehind.brackets import over_bracket, times_bracket
from heldbehind.errors import InvalidIndex, InvalidNumber
from heldbehind.forests import depths, sizes, walk
from heldbehind.integers import is_index
from heldbehind.left import TurnedLeft, index_by_ways, nth_by_ways
from heldbehind.sequences import check_sequence


def turned_pairs(forest, sequence):
    """The number of the turned pairs of a sequence."""
    numbers = _numbers(forest, sequence)
    lesser = [[other for other in numbers[place:] if other < number] for place, number in enumerate(numbers)]
    return sum([len(others) for others in lesser])


def drop_sum(forest, sequence):
    """The drop sum of a sequence."""
    numbers = _numbers(forest, sequence)
    many = len(numbers)
    return sum([many - place for place in range(1, many) if numbers[place] < numbers[place - 1]])


def turned_counts(forest):
    """The list of the numbers of sequences with 0, 1, 2, .. turned pairs."""
    counts = [1] + [0] * most_turned(forest)
    for thing, size in enumerate(sizes(forest)):
        counts = over_bracket(times_bracket(counts, thing + 1), size)
    return counts


def most_turned(forest):
    """The greatest number of turned pairs."""
    pairs = list(zip(sizes(forest), depths(forest)))
    return sum([len(pairs) - size - depth for size, depth in pairs]) // 2


def nth_by_turned(forest, turned, index):
    """The sequence with an index among those with just so many turned pairs."""
    counts = turned_counts(forest)
    if not is_index(turned, len(counts)):
        raise InvalidNumber()
    if not is_index(index, counts[turned]):
        raise InvalidIndex()
    return nth_by_ways(TurnedLeft(forest, counts, turned), index)


def turned_index(forest, sequence):
    """The index of a sequence among those with as many turned pairs."""
    turned = turned_pairs(forest, sequence)
    return index_by_ways(TurnedLeft(forest, turned_counts(forest), turned), sequence)


def _numbers(forest, sequence):
    """The list of the numbers of the things of a sequence, in its order."""
    check_sequence(forest, sequence)
    number_of = {thing: number for number, thing in enumerate(walk(forest))}
    return [number_of[thing] for thing in sequence]
