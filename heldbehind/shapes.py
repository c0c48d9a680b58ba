"""Shapes of forests, as rows: tuples of the depths of the things in the walk.

Forests whose walk is 0, 1, 2, .. compare by their holders, with -1 in place of
None, as their rows do: up to the first item that parts two of them they have
the same things above, of which the one with the greater index is the deeper
one. A block is the part of a row that belongs to a thing and those below it.
It begins with the least depth in it, so that blocks side by side make the
least row in ascending order, whatever follows on them.
"""

from heldbehind.forests import depths, sizes, walk


def ordered_sizes(forest):
    """The ascending list of the sizes of the things."""
    return sorted(sizes(forest))


def plain_row(forest):
    """The row of the plain forest with the shape of a forest."""
    depth_of = depths(forest)
    order = walk(forest)
    # The blocks of what each thing holds, and in the last list of what has no holder.
    blocks = [[] for _ in range(len(order) + 1)]
    # From the end, so that all that a thing holds comes ahead of it.
    for thing in reversed(order):
        holder = forest[thing]
        block = (depth_of[thing],) + _side_by_side(blocks[thing])
        blocks[len(order) if holder is None else holder].append(block)
    return _side_by_side(blocks[len(order)])


def forest_of_row(row):
    """The forest whose walk is 0, 1, 2, .. and whose depths are those of a row."""
    found = []
    latest = {}
    for thing, depth in enumerate(row):
        found.append(latest.get(depth - 1))
        latest[depth] = thing
    return tuple(found)


def rows_with_one_more(row, size):
    """The rows of the plain forests that a row becomes by one more thing of some size.

    It has no holder, and it holds things that had none. `row` is the row of a
    plain forest, too.
    """
    found = {}
    for taken, kept in _choices(_blocks(row), size - 1):
        below = _side_by_side([tuple([depth + 1 for depth in block]) for block in taken])
        found[_side_by_side(kept + ((0,) + below,))] = True
    return list(found)


def _side_by_side(blocks):
    """The least row that blocks of one depth make."""
    return tuple([depth for block in sorted(blocks) for depth in block])


def _blocks(row):
    """The blocks of the things without a holder."""
    starts = [place for place, depth in enumerate(row) if depth == 0]
    return [row[start:end] for start, end in zip(starts, starts[1:] + [len(row)])]


def _choices(blocks, many):
    """The tuples (taken, kept) of blocks, the taken ones with so many things, each choice once."""
    found = {((), ()): 0}
    for block in blocks:
        more = {}
        for (taken, kept), things in found.items():
            more[(taken, kept + (block,))] = things
            if things + len(block) <= many:
                # Blocks that are equal stand side by side: it counts only how many are taken.
                more[(taken + (block,), kept)] = things + len(block)
        found = more
    return [choice for choice, things in found.items() if things == many]
