"""Shares and means: points [5], [6], [10], [13], [14] and [15]."""

import unittest
from fractions import Fraction
from itertools import permutations
from math import factorial, gcd, prod

from counting import (EXAMPLE, LARGER, ONE_THING, SIXTY, SMALL, all_sequences, fractions, mean_of, mixed_forest,
                      no_holders, one_above_all, pair, place_fractions, row, scattered, share_of)
from heldbehind.forests import above, below, depths, sizes
from heldbehind.shares import (ahead_share, first_share, last_share, mean_distance, mean_place, next_to_share,
                               place_range, place_shares, places_share, sure_pairs)

THIRTY = [make(30) for make in (row, one_above_all, no_holders, mixed_forest)]
THIRTY += [scattered(mixed_forest(30), 7), scattered(row(30), 11), (None,) * 2 + tuple(range(28)),
           (None,) + tuple(range(14)) + (0,) + tuple(range(15, 29))]


def some_pairs(forest):
    """Pairs of different things: some near to each other, some far, some above another one."""
    many = len(forest)
    pairs = [(0, many - 1), (many - 1, 0), (many // 2, many // 2 - 1), (many - 2, many - 1), (many // 3, many - 4)]
    pairs += [(holder, many - 3) for holder in above(forest, many - 3)[:2]]
    return pairs + [(many - 3, holder) for holder in above(forest, many - 3)[-1:]]


class Cases(unittest.TestCase):
    def assert_lowest(self, value):
        self.assertIs(type(value), tuple)
        self.assertEqual([type(item) for item in value], [int, int])
        self.assertGreaterEqual(value[1], 1)
        self.assertEqual(gcd(value[0], value[1]), 1)


class Sequences(Cases):
    def test_the_number_of_the_sequences_counted_here(self):
        # Point [6]; it is what the other tests rest on.
        for forest in SMALL + LARGER:
            self.assertEqual(len(all_sequences(forest)), factorial(len(forest)) // prod(sizes(forest)))

    def test_each_stands_behind_its_holder(self):
        # Point [5]: held against all orders of the things.
        for forest in (EXAMPLE, (4, None, 1, 1, 2), (3, 3, 3, None, 1, 1)):
            orders = [list(order) for order in permutations(range(len(forest)))]
            fitting = [order for order in orders if all(
                holder is None or order.index(holder) < order.index(thing) for thing, holder in enumerate(forest))]
            self.assertEqual(all_sequences(forest), fitting)


class OneThing(Cases):
    def test_examples(self):
        self.assertEqual(place_shares(EXAMPLE, 3), [(0, 1), (0, 1), (2, 15), (1, 3), (8, 15)])
        self.assertEqual([mean_place(EXAMPLE, 3), last_share(EXAMPLE, 3), last_share(EXAMPLE, 4)],
                         [(17, 5), (8, 15), (1, 5)])

    def test_small_forests(self):
        for forest in SMALL + LARGER:
            sequences = all_sequences(forest)
            for thing in range(len(forest)):
                self.check_thing(forest, sequences, thing)

    def check_thing(self, forest, sequences, thing):
        places = range(len(forest))
        self.assertEqual(place_shares(forest, thing), [share_of(sequences, lambda s: s[p] == thing) for p in places])
        seen = sorted({one.index(thing) for one in sequences})
        self.assertEqual(place_range(forest, thing), (seen[0], seen[-1]))
        self.assertEqual(seen, list(range(seen[0], seen[-1] + 1)))
        self.assertEqual(mean_place(forest, thing), mean_of(sequences, lambda s: s.index(thing)))
        self.assertEqual(last_share(forest, thing), share_of(sequences, lambda s: s[-1] == thing))
        for many in range(len(forest) + 1):
            self.assertEqual(first_share(forest, thing, many), share_of(sequences, lambda s: thing in s[:many]))

    def test_one_thing(self):
        self.assertEqual([place_shares(ONE_THING, 0), place_range(ONE_THING, 0)], [[(1, 1)], (0, 0)])
        self.assertEqual([mean_place(ONE_THING, 0), last_share(ONE_THING, 0)], [(0, 1), (1, 1)])
        self.assertEqual([first_share(ONE_THING, 0, 0), first_share(ONE_THING, 0, 1)], [(0, 1), (1, 1)])

    def test_large_forests_by_shuffling(self):
        for forest in SIXTY:
            for thing in (0, 1, 7, 17, 30, 45, 58, 59):
                counted = place_fractions(forest, [thing])
                expected = [pair(counted.get(((place, thing),), Fraction(0))) for place in range(60)]
                self.assertEqual(place_shares(forest, thing), expected)

    def test_large_forests_by_the_other_functions(self):
        for forest in SIXTY:
            for thing in range(60):
                self.check_sums(forest, thing)

    def check_sums(self, forest, thing):
        many = len(forest)
        pairs = place_shares(forest, thing)
        for value in pairs:
            self.assert_lowest(value)
        shares = fractions(pairs)
        self.assertEqual([len(shares), sum(shares)], [many, 1])
        least, greatest = place_range(forest, thing)
        self.assertEqual((least, greatest), (depths(forest)[thing], many - sizes(forest)[thing]))
        self.assertEqual([p for p in range(many) if shares[p] > 0], list(range(least, greatest + 1)))
        self.assertEqual(mean_place(forest, thing), pair(sum(p * share for p, share in enumerate(shares))))
        for first in (0, 1, least, greatest, greatest + 1, many // 2, many):
            self.assertEqual(first_share(forest, thing, first), pair(sum(shares[:first], Fraction(0))))
        self.assertEqual(last_share(forest, thing), pairs[-1])

    def test_all_shares_of_a_place_come_to_1(self):
        for forest in SIXTY:
            rows = [fractions(place_shares(forest, thing)) for thing in range(60)]
            self.assertEqual([sum(column) for column in zip(*rows)], [1] * 60)
            self.assertEqual(sum(fractions([last_share(forest, thing) for thing in range(60)])), 1)
            self.assertEqual(sum(fractions([mean_place(forest, thing) for thing in range(60)])), 60 * 59 // 2)

    def test_one_row(self):
        forest = row(60)
        for thing in range(60):
            sure = [(1, 1) if place == thing else (0, 1) for place in range(60)]
            self.assertEqual([place_shares(forest, thing), mean_place(forest, thing)], [sure, (thing, 1)])
            self.assertEqual(last_share(forest, thing), (1, 1) if thing == 59 else (0, 1))

    def test_all_below_one(self):
        forest = one_above_all(60)
        self.assertEqual(place_shares(forest, 0), [(1, 1)] + [(0, 1)] * 59)
        for thing in (1, 30, 59):
            self.assertEqual(place_shares(forest, thing), [(0, 1)] + [(1, 59)] * 59)
            self.assertEqual([mean_place(forest, thing), last_share(forest, thing)], [(30, 1), (1, 59)])

    def test_no_holders(self):
        forest = no_holders(60)
        for thing in (0, 30, 59):
            self.assertEqual(place_shares(forest, thing), [(1, 60)] * 60)
            self.assertEqual([mean_place(forest, thing), place_range(forest, thing)], [(59, 2), (0, 59)])
            self.assertEqual([first_share(forest, thing, k) for k in (0, 1, 45, 60)], [(0, 1), (1, 60), (3, 4), (1, 1)])

    def test_last_share_by_sizes(self):
        for forest in SMALL + LARGER + SIXTY:
            for thing in range(len(forest)):
                share = Fraction(0 if below(forest, thing) else 1, len(forest))
                for holder in above(forest, thing):
                    share *= Fraction(sizes(forest)[holder], sizes(forest)[holder] - 1)
                self.assertEqual(last_share(forest, thing), pair(share))

    def test_first_place_by_sizes(self):
        # Point [6] at the beginning: a share of size / n each.
        for forest in SMALL + LARGER + SIXTY:
            many = len(forest)
            for thing, holder in enumerate(forest):
                share = Fraction(sizes(forest)[thing], many) if holder is None else Fraction(0)
                self.assertEqual(place_shares(forest, thing)[0], pair(share))
                self.assertEqual(first_share(forest, thing, 1), pair(share))

    def test_many_more_things(self):
        for forest in (row(300), mixed_forest(300)):
            self.assertEqual(sum(fractions(place_shares(forest, 299))), 1)
            self.assert_lowest(mean_place(forest, 299))
            self.assert_lowest(last_share(forest, 299))


class TwoThings(Cases):
    def test_examples(self):
        self.assertEqual([ahead_share(EXAMPLE, 2, 3), next_to_share(EXAMPLE, 1, 3)], [(2, 3), (8, 15)])

    def test_small_forests(self):
        for forest in SMALL + LARGER:
            sequences = all_sequences(forest)
            for thing, other in permutations(range(len(forest)), 2):
                self.check_two(forest, sequences, thing, other)

    def check_two(self, forest, sequences, thing, other):
        found = [(one.index(thing), one.index(other)) for one in sequences]
        self.assertEqual(ahead_share(forest, thing, other), share_of(found, lambda at: at[0] < at[1]))
        self.assertEqual(next_to_share(forest, thing, other), share_of(found, lambda at: at[0] + 1 == at[1]))
        self.assertEqual(mean_distance(forest, thing, other), mean_of(found, lambda at: abs(at[0] - at[1])))

    def test_places_in_small_forests(self):
        for forest in SMALL + LARGER[:4]:
            sequences = all_sequences(forest)
            for thing, other in permutations(range(len(forest)), 2):
                found = [(one.index(thing), one.index(other)) for one in sequences]
                for place in range(len(forest)):
                    for other_place in range(len(forest)):
                        self.assertEqual(places_share(forest, thing, place, other, other_place),
                                         share_of(found, lambda at: at == (place, other_place)))

    def test_sure_pairs_in_small_forests(self):
        for forest in SMALL + LARGER:
            sequences = all_sequences(forest)
            sure = [(a, b) for a, b in permutations(range(len(forest)), 2)
                    if all(one.index(a) < one.index(b) for one in sequences)]
            self.assertEqual(sure_pairs(forest), sorted(sure))
            self.assertEqual([type(item) for item in sure_pairs(forest)], [tuple] * len(sure))

    def test_equal_places(self):
        for forest in [EXAMPLE, no_holders(2), row(30), mixed_forest(30)]:
            for place in range(len(forest)):
                self.assertEqual(places_share(forest, 0, place, 1, place), (0, 1))

    def test_one_above_the_other(self):
        forest = (None, 0, 1, None)
        self.assertEqual([next_to_share(forest, 0, 1), next_to_share(forest, 1, 0)], [(3, 4), (0, 1)])
        self.assertEqual([next_to_share(forest, 0, 2), next_to_share(forest, 2, 0)], [(0, 1), (0, 1)])
        self.assertEqual([mean_distance(forest, 0, 1), mean_distance(forest, 1, 0)], [(5, 4), (5, 4)])
        self.assertEqual([mean_distance(forest, 0, 2), mean_distance(forest, 2, 0)], [(5, 2), (5, 2)])
        self.assertEqual([ahead_share(forest, 0, 2), ahead_share(forest, 2, 0)], [(1, 1), (0, 1)])
        self.assertEqual(places_share(forest, 2, 3, 0, 1), (1, 4))

    def test_thirty_things_by_shuffling(self):
        for forest in THIRTY:
            for thing, other in some_pairs(forest):
                counted = place_fractions(forest, [thing, other])
                at = {(dict((t, p) for p, t in key)[thing], dict((t, p) for p, t in key)[other]): share
                      for key, share in counted.items()}
                self.check_shares(forest, thing, other, at)

    def check_shares(self, forest, thing, other, at):
        ahead = sum((share for (p, q), share in at.items() if p < q), Fraction(0))
        beside = sum((share for (p, q), share in at.items() if p + 1 == q), Fraction(0))
        distance = sum(abs(p - q) * share for (p, q), share in at.items())
        self.assertEqual(ahead_share(forest, thing, other), pair(ahead))
        self.assertEqual(next_to_share(forest, thing, other), pair(beside))
        self.assertEqual(mean_distance(forest, thing, other), pair(distance))
        for place in range(0, len(forest), 3):
            for other_place in range(len(forest)):
                self.assertEqual(places_share(forest, thing, place, other, other_place),
                                 pair(at.get((place, other_place), Fraction(0))))

    def test_all_places_come_to_the_places_of_one(self):
        forest = THIRTY[4]
        for thing, other in some_pairs(forest)[:4]:
            alone = place_shares(forest, thing)
            for place in range(0, 30, 4):
                together = [places_share(forest, thing, place, other, q) for q in range(30)]
                for value in together:
                    self.assert_lowest(value)
                self.assertEqual(pair(sum(fractions(together))), alone[place])

    def test_all_pairs_of_thirty_things(self):
        for forest in THIRTY:
            pairs = sure_pairs(forest)
            self.assertEqual(pairs, sorted((a, b) for b in range(30) for a in above(forest, b)))
            for thing, other in permutations(range(0, 30, 2), 2):
                share = ahead_share(forest, thing, other)
                self.assert_lowest(share)
                self.assertEqual(share == (1, 1), (thing, other) in pairs)
                self.assertEqual(sum(fractions([share, ahead_share(forest, other, thing)])), 1)
                self.assertEqual(mean_distance(forest, thing, other), mean_distance(forest, other, thing))

    def test_next_things_come_to_what_is_not_last(self):
        # Behind each thing that is not the last one stands just one thing.
        for forest in THIRTY[2:5]:
            for thing in (0, 11, 29):
                total = sum(fractions([next_to_share(forest, thing, q) for q in range(30) if q != thing]))
                self.assertEqual(pair(1 - total), last_share(forest, thing))

    def test_mean_place_by_the_things_ahead(self):
        for forest in THIRTY:
            for thing in (0, 13, 29):
                ahead = fractions([ahead_share(forest, other, thing) for other in range(30) if other != thing])
                self.assertEqual(mean_place(forest, thing), pair(sum(ahead)))

    def test_parted_ways(self):
        # Point [15]: of the first two things of the parted ways, of sizes a and b.
        forest = (None, 0, 0, 1, 1, 2, None)
        self.assertEqual(ahead_share(forest, 1, 2), (3, 5))
        self.assertEqual(ahead_share(forest, 0, 6), (6, 7))
        # 1 ahead of 2 in 3 / 5, and then 3 is ahead of 2 in 1 / 3 of these.
        self.assertEqual(ahead_share(forest, 3, 2), (1, 5))

    def test_only_the_sizes_on_both_ways_count(self):
        forest = (None, 0, 0, 1, 1, 2, None, 6, 6, 7)
        other = (None, 0, 0, 1, 3, 2)
        for thing, against in ((1, 2), (2, 1), (5, 1), (2, 5)):
            self.assertEqual(ahead_share(forest, thing, against), ahead_share(other, thing, against))

    def test_no_holders(self):
        forest = no_holders(30)
        self.assertEqual([ahead_share(forest, 3, 29), next_to_share(forest, 29, 3)], [(1, 2), (1, 30)])
        self.assertEqual([mean_distance(forest, 0, 29), places_share(forest, 0, 29, 7, 0)], [(31, 3), (1, 870)])

    def test_one_row(self):
        forest = row(30)
        for thing, other in ((0, 29), (29, 0), (7, 8), (8, 7), (20, 3)):
            self.assertEqual(ahead_share(forest, thing, other), (1, 1) if thing < other else (0, 1))
            self.assertEqual(next_to_share(forest, thing, other), (1, 1) if thing + 1 == other else (0, 1))
            self.assertEqual(mean_distance(forest, thing, other), (abs(thing - other), 1))
            self.assertEqual(places_share(forest, thing, thing, other, other), (1, 1))
            self.assertEqual(places_share(forest, thing, other, other, thing), (0, 1))
        self.assertEqual(len(sure_pairs(forest)), 435)

    def test_all_below_one(self):
        forest = one_above_all(30)
        self.assertEqual([ahead_share(forest, 0, 9), ahead_share(forest, 8, 9)], [(1, 1), (1, 2)])
        self.assertEqual([next_to_share(forest, 0, 9), next_to_share(forest, 8, 9)], [(1, 29), (1, 29)])
        self.assertEqual([mean_distance(forest, 0, 9), mean_distance(forest, 8, 9)], [(15, 1), (10, 1)])
        self.assertEqual(sure_pairs(forest), [(0, thing) for thing in range(1, 30)])

    def test_no_sure_pairs(self):
        self.assertEqual([sure_pairs(ONE_THING), sure_pairs(no_holders(60))], [[], []])

    def test_many_more_things(self):
        # Two rows of forty things, and forty things beside them.
        forest = (None,) + tuple(range(39)) + (None,) + tuple(range(40, 79)) + (None,) * 40
        self.assertEqual([ahead_share(forest, 39, 79), next_to_share(forest, 0, 39)], [(1, 2), (0, 1)])
        # Two things side by side of which none is above the other one can change places.
        self.assertEqual(next_to_share(forest, 39, 79), next_to_share(forest, 79, 39))
        self.assertEqual(mean_distance(forest, 0, 39), pair(
            fractions([mean_place(forest, 39)])[0] - fractions([mean_place(forest, 0)])[0]))
        self.assertEqual(places_share(forest, 39, 118, 79, 119), places_share(forest, 79, 118, 39, 119))


if __name__ == "__main__":
    unittest.main()
