"""Alike forests, the sizes behind numbers of turned pairs, and the forests with some sizes."""

from heldbehind.brackets import times_bracket
from heldbehind.errors import InvalidCounts, InvalidNumber, InvalidSizes
from heldbehind.integers import is_between, is_integer
from heldbehind.sequences import count_sequences
from heldbehind.shapes import forest_of_row, ordered_sizes, plain_row, rows_with_one_more

MOST_THINGS = 60


def are_alike(forest, other):
    """Whether two forests have the same sizes, each as often."""
    return ordered_sizes(forest) == ordered_sizes(other)


def parting_size(forest, other):
    """The least size that is not as often in both forests, or None."""
    size_list, other_sizes = ordered_sizes(forest), ordered_sizes(other)
    for size in range(1, max(len(size_list), len(other_sizes)) + 1):
        if size_list.count(size) != other_sizes.count(size):
            return size
    return None


def same_number(forest, other):
    """Whether two forests have as many sequences."""
    return count_sequences(forest) == count_sequences(other)


def sizes_back(counts, many):
    """The ascending list of the sizes of many things that belong to numbers by turned pairs, or None."""
    _check_counts(counts)
    if not is_between(many, 1, MOST_THINGS):
        raise InvalidNumber()
    # The counts by the brackets of all sizes are to come to this product.
    product = _first_brackets(many)
    left = counts + [0] * (len(product) - len(counts))
    found = []
    for size in range(1, many + 1):
        # No greater size changes the item of this one, and each such size takes 1 from it.
        often = left[size] - product[size]
        if not 0 <= often <= many - len(found):
            return None
        found.extend([size] * often)
        for _ in range(often):
            left = times_bracket(left, size)
    # No item may have fallen out behind the end; a 0 at the end of the counts does not fit either.
    fits = len(found) == many and len(counts) + sum(found) == len(product)
    return found if fits and left == product else None


def plain(forest):
    """The plain forest with the shape of a forest."""
    return forest_of_row(plain_row(forest))


def shapes_with(sizes):
    """The ascending list of the plain forests with these sizes."""
    _check_sizes(sizes)
    rows = [()]
    # In ascending order, so that what a thing is to hold is there ahead of it.
    for size in sorted(sizes):
        found = {more: True for row in rows for more in rows_with_one_more(row, size)}
        rows = list(found)
    return [forest_of_row(row) for row in sorted(rows)]


def count_shapes(sizes):
    """The number of the plain forests with these sizes."""
    return len(shapes_with(sizes))


def forest_with(sizes):
    """The first plain forest with these sizes, or None."""
    shapes = shapes_with(sizes)
    return shapes[0] if len(shapes) > 0 else None


def _check_counts(counts):
    if not isinstance(counts, list) or len(counts) == 0 or not all([is_integer(count) for count in counts]):
        raise InvalidCounts()


def _check_sizes(sizes):
    if not isinstance(sizes, list) or len(sizes) == 0:
        raise InvalidSizes()
    if not all([is_between(size, 1, len(sizes)) for size in sizes]):
        raise InvalidSizes()


def _first_brackets(many):
    """The product of 1 - q ** size for all sizes from 1 to many, up to its last item."""
    found = [1] + [0] * (many * (many + 1) // 2)
    for size in range(1, many + 1):
        found = times_bracket(found, size)
    return found
