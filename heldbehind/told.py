"""What told sequences let: the forests of which all of them are sequences."""

from heldbehind.errors import InvalidIndex, InvalidTold
from heldbehind.integers import is_index, is_order
from heldbehind.sequences import count_sequences


def always_ahead(told):
    """The list of the ascending lists, for each thing, of the things ahead of it in all told sequences."""
    _check_told(told)
    place_lists = [_places(sequence) for sequence in told]
    things = list(range(len(told[0])))
    return [[other for other in things if _is_ahead(place_lists, other, thing)] for thing in things]


def count_forests(told):
    """How many forests let all told sequences."""
    return _count_choices(always_ahead(told))


def nth_forest(told, index):
    """The forest with an index among those that let all told sequences."""
    ahead = always_ahead(told)
    if not is_index(index, _count_choices(ahead)):
        raise InvalidIndex()
    found = []
    # Forests that follow on one another differ in their last holders first.
    for others in reversed(ahead):
        index, at = divmod(index, len(others) + 1)
        found.append(None if at == 0 else others[at - 1])
    return tuple(found[::-1])


def forest_of(told):
    """The forest whose sequences are just the told ones, or None."""
    # Each thing above another one is always ahead of it, so there is no other forest to ask for.
    # It lets all told sequences: they are all of its sequences if they are as many.
    nearest = nearest_forest(told)
    many = len({tuple(sequence) for sequence in told})
    return nearest if count_sequences(nearest) == many else None


def nearest_forest(told):
    """The forest in which the last of the things that are always ahead of a thing is its holder."""
    ahead = always_ahead(told)
    place_of = _places(told[0])
    return tuple([_last_one(told[0], place_of, others) for others in ahead])


def _check_told(told):
    if not isinstance(told, list) or len(told) == 0 or not all([is_order(sequence) for sequence in told]):
        raise InvalidTold()
    if not all([len(sequence) == len(told[0]) for sequence in told]):
        raise InvalidTold()


def _places(sequence):
    """For each thing its place in a sequence."""
    found = [0] * len(sequence)
    for place, thing in enumerate(sequence):
        found[thing] = place
    return found


def _is_ahead(place_lists, other, thing):
    return all([place_of[other] < place_of[thing] for place_of in place_lists])


def _count_choices(ahead):
    """How many forests there are if each thing has one of these holders, or none."""
    found = 1
    for others in ahead:
        found = found * (len(others) + 1)
    return found


def _last_one(sequence, place_of, things):
    """The last one of some things in a sequence, or None if there are none."""
    return sequence[max([place_of[thing] for thing in things])] if len(things) > 0 else None
