"""Shares of the sequences by the places of one thing or of two."""

from math import factorial

from heldbehind.errors import InvalidNumber, InvalidPlace, SameThing
from heldbehind.forests import above, check_forest, check_thing, sizes
from heldbehind.integers import is_index, lowest, mixed
from heldbehind.ways import TwoWays


def place_shares(forest, thing):
    """The list of the shares in which a thing is at the places 0 to n - 1."""
    return [_share(forest, weight) for weight in _place_weights(forest, thing)]


def place_range(forest, thing):
    """The tuple of the least and the greatest place of a thing."""
    return (len(above(forest, thing)), len(forest) - sizes(forest)[thing])


def mean_place(forest, thing):
    """The mean place of a thing."""
    weights = _place_weights(forest, thing)
    return _share(forest, sum([place * weight for place, weight in enumerate(weights)]))


def first_share(forest, thing, many):
    """The share in which a thing is among the first many."""
    weights = _place_weights(forest, thing)
    if not is_index(many, len(forest) + 1):
        raise InvalidNumber()
    return _share(forest, sum(weights[:many]))


def last_share(forest, thing):
    """The share in which a thing is the last one."""
    check_forest(forest)
    check_thing(forest, thing)
    size_of = sizes(forest)
    if size_of[thing] > 1:
        return (0, 1)
    top, bottom = 1, len(forest)
    for holder in above(forest, thing):
        top = top * size_of[holder]
        bottom = bottom * (size_of[holder] - 1)
    return lowest(top, bottom)


def ahead_share(forest, thing, other):
    """The share in which one thing is ahead of another one."""
    _check_two(forest, thing, other)
    size_of = sizes(forest)
    way_up = [thing] + above(forest, thing)
    other_way_up = [other] + above(forest, other)
    parted = [size_of[one] for one in way_up if one not in other_way_up]
    other_parted = [size_of[one] for one in other_way_up if one not in way_up]
    return _parted_share(parted, other_parted)


def next_to_share(forest, thing, other):
    """The share in which the other thing is at the place just behind the first one."""
    _check_two(forest, thing, other)
    ways = TwoWays(forest, thing, other)
    at, other_at = ways.state_before_both()
    # A thing that holds the other one is on both ways, and it is done on both at once.
    before = (at, other_at - 1) if forest[other] == thing else (at, other_at)
    weights = {(0, 0): 1}
    total = 0
    for left in range(len(forest), 1, -1):
        total = total + weights.get(before, 0) * factorial(left - 2)
        weights = ways.weights_behind(weights, left)
    return _share(forest, total * ways.size_of[thing] * ways.size_of[other])


def places_share(forest, thing, place, other, other_place):
    """The share in which both things are at these places."""
    check_forest(forest)
    check_thing(forest, thing)
    _check_place(forest, place)
    check_thing(forest, other)
    _check_place(forest, other_place)
    _check_different(thing, other)
    ways = TwoWays(forest, thing, other)
    weights = {(0, 0): 1}
    for now in range(len(forest)):
        behind = ways.weights_behind(weights, len(forest) - now)
        due = (place <= now, other_place <= now)
        weights = {state: behind[state] for state in behind if ways.ends_done(state) == due}
    return _share(forest, sum([weights[state] for state in weights]))


def mean_distance(forest, thing, other):
    """The mean of the difference of the places of two things, taken as positive."""
    _check_two(forest, thing, other)
    ways = TwoWays(forest, thing, other)
    weights = {(0, 0): 1}
    total = 0
    # The difference is the number of beginnings that have just one of both things.
    for left in range(len(forest), 0, -1):
        weights = ways.weights_behind(weights, left)
        just_one = [weights[state] for state in weights if ways.just_one_done(state)]
        total = total + sum(just_one) * factorial(left - 1)
    return _share(forest, total)


def sure_pairs(forest):
    """The ascending list of the tuples (a, b) such that a is ahead of b in all sequences."""
    check_forest(forest)
    return sorted([(holder, thing) for thing in range(len(forest)) for holder in above(forest, thing)])


def _check_place(forest, place):
    if not is_index(place, len(forest)):
        raise InvalidPlace()


def _check_different(thing, other):
    if thing == other:
        raise SameThing()


def _check_two(forest, thing, other):
    check_forest(forest)
    check_thing(forest, thing)
    check_thing(forest, other)
    _check_different(thing, other)


def _share(forest, weight):
    """The share that an integer is of n!."""
    return lowest(weight, factorial(len(forest)))


def _place_weights(forest, thing):
    """For each place the integer whose share of n! is the share of the place."""
    check_forest(forest)
    check_thing(forest, thing)
    size_of = sizes(forest)
    way = [size_of[one] for one in above(forest, thing)[::-1] + [thing]]
    # By the number of things that are done on the way, all ahead of its end.
    weights = [1] + [0] * (len(way) - 1)
    found = []
    for left in range(len(forest), 0, -1):
        done = [weight * size for weight, size in zip(weights, way)]
        found.append(done.pop() * factorial(left - 1))
        stay = [weight * (left - size) for weight, size in zip(weights, way)]
        weights = [came + stayed for came, stayed in zip([0] + done, stay)]
    return found


def _parted_share(parted, other_parted):
    """The share in which the end of one parted way is ahead of the other one's.

    Both ways are given by the sizes of their things, from the end up.
    """
    # shares[k] is the share while just k things of the other way are left.
    shares = [(0, 1)] + [(1, 1)] * len(other_parted)
    for size in parted:
        row = [(0, 1)]
        for at, other_size in enumerate(other_parted):
            row.append(mixed(size, shares[at + 1], other_size, row[at]))
        shares = row
    return shares[-1]
