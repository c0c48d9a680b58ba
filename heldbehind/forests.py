"""Forests: what one is, and the sizes, depths, ways and walk of its things."""

from heldbehind.errors import InvalidForest, InvalidThing
from heldbehind.integers import is_index


def is_forest(value):
    """Whether any value is a forest."""
    if not isinstance(value, tuple) or len(value) == 0:
        return False
    if not all([holder is None or is_index(holder, len(value)) for holder in value]):
        return False
    # The things of a ring, and those below them, are below no thing without a holder.
    return len(_walk_through(_held_lists(value), _without_holder(value))) == len(value)


def check_forest(forest):
    """Raise InvalidForest for any value that is not a forest."""
    if not is_forest(forest):
        raise InvalidForest()


def check_thing(forest, thing):
    """Raise InvalidThing for any value that is not the index of a thing."""
    if not is_index(thing, len(forest)):
        raise InvalidThing()


def sizes(forest):
    """The list of the sizes of the things."""
    order = walk(forest)
    found = [1] * len(order)
    for thing in reversed(order):
        holder = forest[thing]
        if holder is not None:
            found[holder] = found[holder] + found[thing]
    return found


def depths(forest):
    """The list of the depths of the things."""
    order = walk(forest)
    found = [0] * len(order)
    for thing in order:
        holder = forest[thing]
        if holder is not None:
            found[thing] = found[holder] + 1
    return found


def above(forest, thing):
    """The list of the things above a thing, its holder first."""
    check_forest(forest)
    check_thing(forest, thing)
    found = []
    holder = forest[thing]
    while holder is not None:
        found.append(holder)
        holder = forest[holder]
    return found


def below(forest, thing):
    """The ascending list of the things below a thing."""
    check_forest(forest)
    check_thing(forest, thing)
    held = _held_lists(forest)
    return sorted(_walk_through(held, held[thing]))


def firsts(forest):
    """The ascending list of the things without a holder."""
    check_forest(forest)
    return _without_holder(forest)


def held_by(forest, thing):
    """The ascending list of the things whose holder a thing is."""
    check_forest(forest)
    check_thing(forest, thing)
    return [held for held, holder in enumerate(forest) if holder == thing]


def walk(forest):
    """The walk of a forest as a list."""
    check_forest(forest)
    return _walk_through(_held_lists(forest), _without_holder(forest))


def forest_among(forest, things):
    """The forest of some things, renamed by their indexes in the list or tuple of them.

    A thing whose holder is not among them has no holder in it.
    """
    name_of = {thing: name for name, thing in enumerate(things)}
    return tuple([name_of.get(forest[thing]) for thing in things])


def _without_holder(forest):
    return [thing for thing, holder in enumerate(forest) if holder is None]


def _held_lists(forest):
    """For each thing the ascending list of those that it holds."""
    held = [[] for _ in forest]
    for thing, holder in enumerate(forest):
        if holder is not None:
            held[holder].append(thing)
    return held


def _walk_through(held, starts):
    """The things of starts, behind each of them at once all that is below it."""
    found = []
    # Not by recursion: a thing may be deeper than calls can be nested.
    waiting = starts[::-1]
    while len(waiting) > 0:
        thing = waiting.pop()
        found.append(thing)
        waiting.extend(held[thing][::-1])
    return found
