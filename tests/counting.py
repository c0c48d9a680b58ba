"""What the tests count themselves, in ways of their own."""

from fractions import Fraction
from itertools import product
from math import comb


def all_sequences(forest):
    """All sequences of a forest, ascending, each made thing by thing."""
    found = []

    def go_on(begun):
        if len(begun) == len(forest):
            found.append(list(begun))
        for thing, holder in enumerate(forest):
            if thing not in begun and (holder is None or holder in begun):
                go_on(begun + [thing])

    go_on([])
    return found


def all_tuples(many):
    """All tuples of so many items, each None or from 0 to many - 1."""
    return list(product([None] + list(range(many)), repeat=many))


def comes_out(holders):
    """Whether from each thing the holders lead to a thing without a holder."""
    for thing in range(len(holders)):
        at = thing
        for _ in holders:
            at = None if at is None else holders[at]
        if at is not None:
            return False
    return True


def all_forests(many):
    return [holders for holders in all_tuples(many) if comes_out(holders)]


def pair(fraction):
    return (fraction.numerator, fraction.denominator)


def share_of(sequences, test):
    """The share of the sequences that a test holds for."""
    return pair(Fraction(sum(1 for one in sequences if test(one)), len(sequences)))


def mean_of(sequences, worth):
    return pair(Fraction(sum(worth(one) for one in sequences), len(sequences)))


def fractions(pairs):
    return [Fraction(top, bottom) for top, bottom in pairs]


def renamed(forest, names):
    """The forest in which the thing v is called names[v]."""
    out = [None] * len(forest)
    for thing, holder in enumerate(forest):
        out[names[thing]] = None if holder is None else names[holder]
    return tuple(out)


def scattered(forest, step):
    """The forest with its indexes in another order; step has no divisor of n but 1."""
    many = len(forest)
    return renamed(forest, [(thing * step + 1) % many for thing in range(many)])


def row(many):
    return (None,) + tuple(range(many - 1))


def one_above_all(many):
    return (None,) + (0,) * (many - 1)


def no_holders(many):
    return (None,) * many


def mixed_forest(many):
    """A forest of rows and bushes, with some things without a holder."""
    holders = [None]
    for thing in range(1, many):
        if thing % 11 == 0:
            holders.append(None)
        elif thing % 4 == 0:
            holders.append(thing // 3)
        else:
            holders.append(max(0, thing - 1 - thing % 2))
    return tuple(holders)


def place_counts(forest, marked):
    """How many sequences have the marked things at which places, by shuffling.

    The keys are tuples of (place, thing), ascending; things that are not
    marked only count up to the order in which they stand among themselves.
    """
    tops = [_marked_tree(forest, thing, marked) for thing, holder in enumerate(forest) if holder is None]
    return _shuffled(tops)[1]


def place_fractions(forest, marked):
    counts = place_counts(forest, marked)
    total = sum(counts.values())
    return {key: Fraction(count, total) for key, count in counts.items()}


def _marked_tree(forest, thing, marked):
    held = [_marked_tree(forest, one, marked) for one, holder in enumerate(forest) if holder == thing]
    size, counts = _shuffled(held)
    own = ((0, thing),) if thing in marked else ()
    return size + 1, {own + tuple((at + 1, one) for at, one in key): count for key, count in counts.items()}


def _shuffled(trees):
    """Trees shuffled into each other, those without marked things first."""
    size, counts = 0, {(): 1}
    for other_size, other_counts in sorted(trees, key=lambda tree: list(tree[1]) != [()]):
        found = {}
        for key, count in counts.items():
            for other_key, other_count in other_counts.items():
                for merged, ways in _merges(0, key, size, 0, other_key, other_size):
                    found[merged] = found.get(merged, 0) + count * other_count * ways
        size, counts = size + other_size, found
    return size, counts


def _merges(at, key, size, other_at, other_key, other_size):
    """Where the marked things get, and in how many ways, from at and other_at on."""
    if not key and not other_key:
        return [((), comb(size - at + other_size - other_at, size - at))]
    found = []
    if key:
        place, thing = key[0]
        latest = other_key[0][0] if other_key else other_size
        for now in range(other_at, latest + 1):
            ways = comb(place - at + now - other_at, place - at)
            for rest, more in _merges(place + 1, key[1:], size, now, other_key, other_size):
                found.append((((place + now, thing),) + rest, ways * more))
    if other_key:
        place, thing = other_key[0]
        latest = key[0][0] if key else size
        for now in range(at, latest + 1):
            ways = comb(now - at + place - other_at, now - at)
            for rest, more in _merges(now, key, size, place + 1, other_key[1:], other_size):
                found.append((((now + place, thing),) + rest, ways * more))
    return found
