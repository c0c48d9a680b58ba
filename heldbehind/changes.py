"""Changed forests: two made one, parts of one, and those with one thing ahead of another one."""

from heldbehind.errors import NoForest, OnlyThing, SameThing
from heldbehind.forests import above, below, check_forest, check_thing, forest_among


def beside(forest, other):
    """The forest with the things of both, those of the other one with greater numbers."""
    check_forest(forest)
    check_forest(other)
    return forest + _behind(other, len(forest), None)


def grafted(forest, thing, other):
    """The forest of both in which a thing holds those of the other one that have no holder."""
    check_forest(forest)
    check_thing(forest, thing)
    check_forest(other)
    return forest + _behind(other, len(forest), thing)


def part(forest, thing):
    """The forest of a thing and those below it."""
    return forest_among(forest, sorted([thing] + below(forest, thing)))


def without(forest, thing):
    """The forest without a thing, whose held ones go to its holder."""
    check_forest(forest)
    check_thing(forest, thing)
    if len(forest) == 1:
        raise OnlyThing()
    passed_on = tuple([forest[thing] if holder == thing else holder for holder in forest])
    return forest_among(passed_on, [other for other in range(len(forest)) if other != thing])


def told_ahead(forest, thing, other):
    """The forest of the sequences in which a thing is ahead of another one, or None."""
    above_thing, above_other = above(forest, thing), above(forest, other)
    if thing == other:
        raise SameThing()
    if thing in above_other:
        return forest
    if other in above_thing:
        return None
    # With a holder that is not above the thing, the other one would need both as holders.
    if forest[other] is not None and forest[other] not in above_thing:
        raise NoForest()
    return forest[:other] + (thing,) + forest[other + 1:]


def _behind(forest, many, top):
    """The holders of a forest whose numbers are greater by so many, with top in place of None."""
    return tuple([top if holder is None else holder + many for holder in forest])
