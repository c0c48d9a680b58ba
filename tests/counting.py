"""What the tests count themselves, in ways of their own."""

from fractions import Fraction
from functools import lru_cache
from itertools import combinations, product
from math import comb, prod
from random import Random

EXAMPLE = (None, 0, 0, 1, None)
ONE_THING = (None,)


def all_sequences(forest):
    """All sequences of a forest, ascending, each made thing by thing."""
    found = []

    def go_on(begun):
        if len(begun) == len(forest):
            found.append(list(begun))
        for thing, holder in enumerate(forest):
            if thing not in begun and (holder is None or holder in begun):
                go_on(begun + [thing])

    go_on([])
    return found


def all_tuples(many):
    """All tuples of so many items, each None or from 0 to many - 1."""
    return list(product([None] + list(range(many)), repeat=many))


def comes_out(holders):
    """Whether from each thing the holders lead to a thing without a holder."""
    for thing in range(len(holders)):
        at = thing
        for _ in holders:
            at = None if at is None else holders[at]
        if at is not None:
            return False
    return True


def all_forests(many):
    return [holders for holders in all_tuples(many) if comes_out(holders)]


def pair(fraction):
    return (fraction.numerator, fraction.denominator)


def share_of(sequences, test):
    """The share of the sequences that a test holds for."""
    return pair(Fraction(sum(1 for one in sequences if test(one)), len(sequences)))


def mean_of(sequences, worth):
    return pair(Fraction(sum(worth(one) for one in sequences), len(sequences)))


def fractions(pairs):
    return [Fraction(top, bottom) for top, bottom in pairs]


def renamed(forest, names):
    """The forest in which the thing v is called names[v]."""
    out = [None] * len(forest)
    for thing, holder in enumerate(forest):
        out[names[thing]] = None if holder is None else names[holder]
    return tuple(out)


def scattered(forest, step):
    """The forest with its indexes in another order; step has no divisor of n but 1."""
    many = len(forest)
    return renamed(forest, [(thing * step + 1) % many for thing in range(many)])


def row(many):
    return (None,) + tuple(range(many - 1))


def one_above_all(many):
    return (None,) + (0,) * (many - 1)


def no_holders(many):
    return (None,) * many


def mixed_forest(many):
    """A forest of rows and bushes, with some things without a holder."""
    holders = [None]
    for thing in range(1, many):
        if thing % 11 == 0:
            holders.append(None)
        elif thing % 4 == 0:
            holders.append(thing // 3)
        else:
            holders.append(max(0, thing - 1 - thing % 2))
    return tuple(holders)


def is_above(forest, thing, other):
    at = forest[other]
    while at is not None and at != thing:
        at = forest[at]
    return at is not None


def walk_by_calls(forest, holder=None):
    found = []
    for thing in range(len(forest)):
        if forest[thing] == holder and (forest[thing] is None) == (holder is None):
            found += [thing] + walk_by_calls(forest, thing)
    return found


def numbers_in(forest, sequence):
    walked = walk_by_calls(forest)
    return [walked.index(thing) for thing in sequence]


def pairs_turned(forest, sequence):
    """The tuples (greater, lesser) of the numbers of the turned pairs."""
    return [(first, behind) for first, behind in combinations(numbers_in(forest, sequence), 2) if first > behind]


def drops_of(forest, sequence):
    """The places that are drops."""
    numbers = numbers_in(forest, sequence)
    return [place for place in range(1, len(numbers)) if numbers[place] < numbers[place - 1]]


def tally(worths):
    """How often 0, 1, 2, .. are among these integers, up to the greatest one."""
    return [worths.count(worth) for worth in range(max(worths) + 1)]


def random_forest(many, seed):
    """A forest in which the holders, and the order of the indexes, are drawn."""
    draw = Random(seed)
    forest = tuple(draw.choice([None, None] + list(range(thing))) if thing else None for thing in range(many))
    return renamed(forest, draw.sample(range(many), many))


def random_sequence(forest, seed):
    draw = Random(seed)
    found = []
    while len(found) < len(forest):
        found.append(draw.choice([thing for thing, holder in enumerate(forest)
                                  if thing not in found and (holder is None or holder in found)]))
    return found


def drawn_indexes(many, seed):
    """The first, the last, and some other indexes of so many, ascending."""
    draw = Random(seed)
    some = [draw.randrange(many) for _ in range(6)]
    return sorted({0, 1 % many, many // 2, max(0, many - 2), many - 1, *some})


def merges_of(forest):
    """The tuples (size of both, size of the second) of the shuffles that make a sequence out of trees."""
    found = []

    def merged(tops):
        size = 0
        for thing in tops:
            other_size = 1 + merged([one for one, holder in enumerate(forest) if holder == thing])
            size += other_size
            found.append((size, other_size))
        return size

    merged([thing for thing, holder in enumerate(forest) if holder is None])
    return found


def count_by_shuffling(forest):
    return prod(comb(size, other_size) for size, other_size in merges_of(forest))


def turned_by_shuffling(forest):
    """The numbers of sequences by turned pairs: those of the shuffles, multiplied."""
    counts = [1]
    for size, other_size in merges_of(forest):
        counts = multiplied(counts, shuffles(size, other_size))
    return counts


def multiplied(counts, other_counts):
    found = [0] * (len(counts) + len(other_counts) - 1)
    for at, count in enumerate(counts):
        for other_at, other_count in enumerate(other_counts):
            found[at + other_at] += count * other_count
    return found


@lru_cache(maxsize=None)
def shuffles(size, behind):
    """How many ways to put so many greater things among lesser ones, by turned pairs."""
    if behind in (0, size):
        return (1,)
    # The last one is a greater one, or it is a lesser one that is turned with all greater ones.
    last_greater = shuffles(size - 1, behind - 1)
    last_lesser = (0,) * behind + shuffles(size - 1, behind)
    many = max(len(last_greater), len(last_lesser))
    return tuple(sum(row[at] for row in (last_greater, last_lesser) if at < len(row)) for at in range(many))


def sizes_by_hand(forest):
    return [1 + sum(is_above(forest, thing, other) for other in range(len(forest))) for thing in range(len(forest))]


def with_minus_ones(forest):
    """The holders with -1 in place of None, so that forests compare."""
    return [-1 if holder is None else holder for holder in forest]


def walked_forests(many):
    """All forests whose walk is 0, 1, 2, .., ascending: each thing is held by one on the way to the one ahead."""
    found = [(None,)]
    for _ in range(many - 1):
        longer = []
        for forest in found:
            holder = len(forest) - 1
            longer.append(forest + (holder,))
            while holder is not None:
                holder = forest[holder]
                longer.append(forest + (holder,))
        found = longer
    return sorted(found, key=with_minus_ones)


def shape_code(forest, holder=None):
    """A text that is the same for just the forests of one shape."""
    held = [thing for thing in range(len(forest)) if forest[thing] is holder or forest[thing] == holder]
    return "".join(sorted("(" + shape_code(forest, thing) + ")" for thing in held))


def counts_thing_by_thing(forest):
    """The numbers of sequences by turned pairs and by drop sum, by what is done and which was the last.

    Only for forests with few ways to be done in part.
    """
    walked = walk_by_calls(forest)
    holders = [None if forest[thing] is None else walked.index(forest[thing]) for thing in walked]
    many = len(forest)

    @lru_cache(maxsize=None)
    def behind(done, last):
        if len(done) == many:
            return (((0, 0), 1),)
        found = {}
        for number, holder in enumerate(holders):
            if number in done or (holder is not None and holder not in done):
                continue
            turned = sum(1 for other in range(number) if other not in done)
            drop = many - len(done) if last is not None and number < last else 0
            for (more_turned, more_drops), count in behind(done | {number}, number):
                key = (turned + more_turned, drop + more_drops)
                found[key] = found.get(key, 0) + count
        return tuple(found.items())

    rows = behind(frozenset(), None)
    return [[sum(count for key, count in rows if key[which] == worth)
             for worth in range(max(key[which] for key, _ in rows) + 1)] for which in (0, 1)]


def place_counts(forest, marked):
    """How many sequences have the marked things at which places, by shuffling.

    The keys are tuples of (place, thing), ascending; things that are not
    marked only count up to the order in which they stand among themselves.
    """
    tops = [_marked_tree(forest, thing, marked) for thing, holder in enumerate(forest) if holder is None]
    return _shuffled(tops)[1]


def place_fractions(forest, marked):
    counts = place_counts(forest, marked)
    total = sum(counts.values())
    return {key: Fraction(count, total) for key, count in counts.items()}


def _marked_tree(forest, thing, marked):
    held = [_marked_tree(forest, one, marked) for one, holder in enumerate(forest) if holder == thing]
    size, counts = _shuffled(held)
    own = ((0, thing),) if thing in marked else ()
    return size + 1, {own + tuple((at + 1, one) for at, one in key): count for key, count in counts.items()}


def _shuffled(trees):
    """Trees shuffled into each other, those without marked things first."""
    size, counts = 0, {(): 1}
    for other_size, other_counts in sorted(trees, key=lambda tree: list(tree[1]) != [()]):
        found = {}
        for key, count in counts.items():
            for other_key, other_count in other_counts.items():
                for merged, ways in _merges(0, key, size, 0, other_key, other_size):
                    found[merged] = found.get(merged, 0) + count * other_count * ways
        size, counts = size + other_size, found
    return size, counts


def _merges(at, key, size, other_at, other_key, other_size):
    """Where the marked things get, and in how many ways, from at and other_at on."""
    if not key and not other_key:
        return [((), comb(size - at + other_size - other_at, size - at))]
    found = []
    if key:
        place, thing = key[0]
        latest = other_key[0][0] if other_key else other_size
        for now in range(other_at, latest + 1):
            ways = comb(place - at + now - other_at, place - at)
            for rest, more in _merges(place + 1, key[1:], size, now, other_key, other_size):
                found.append((((place + now, thing),) + rest, ways * more))
    if other_key:
        place, thing = other_key[0]
        latest = key[0][0] if key else size
        for now in range(at, latest + 1):
            ways = comb(now - at + place - other_at, now - at)
            for rest, more in _merges(now, key, size, place + 1, other_key[1:], other_size):
                found.append((((now + place, thing),) + rest, ways * more))
    return found


SMALL = [forest for many in range(1, 5) for forest in all_forests(many)]
# A little larger ones: rows, bushes and things without holders, indexes in any order.
LARGER = [EXAMPLE, (4, None, 1, 1, 2), (None, 0, 1, None, 3, 4), (5, 5, 0, None, 3, None, 0), (3, 3, 3, None, 1, 1),
          (None, 0, 1, 1, 0, 4, 4), row(7), one_above_all(6), no_holders(5), (2, 0, None, 1, None, None),
          (4, None, 1, 1, 2, 4)]
SIXTY = [make(60) for make in (row, one_above_all, no_holders, mixed_forest)]
SIXTY += [scattered(mixed_forest(60), 7), scattered(row(60), 31), scattered(one_above_all(60), 11)]
