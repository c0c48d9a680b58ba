"""Turned pairs and drops: points [7], [8], [9] and [18]."""

import unittest
from itertools import permutations
from math import comb, factorial
from random import Random

from counting import (EXAMPLE, LARGER, ONE_THING, SIXTY, SMALL, all_sequences, count_by_shuffling,
                      counts_thing_by_thing, drawn_indexes, drops_of, is_above, mixed_forest, multiplied, no_holders,
                      one_above_all, pairs_turned, random_forest, random_sequence, renamed, row, tally,
                      turned_by_shuffling)
from heldbehind.errors import InvalidIndex, InvalidNumber, InvalidSequence
from heldbehind.forests import sizes, walk
from heldbehind.sequences import count_sequences, is_sequence
from heldbehind.turned import (drop_sum, most_turned, nth_by_turned, turned_counts, turned_index, turned_pairs)

LARGE = SIXTY + [random_forest(many, many) for many in (41, 57, 59, 60)]
TWELVE = [random_forest(12, seed) for seed in range(4)] + [mixed_forest(11), no_holders(9), one_above_all(10)]


def bracket(size):
    return [1] * size


class Pairs(unittest.TestCase):
    def test_examples(self):
        one = [4, 0, 2, 1, 3]
        self.assertEqual([turned_pairs(EXAMPLE, one), drop_sum(EXAMPLE, one)], [6, 6])

    def test_numbers_by_hand(self):
        # The walk is 3, 4, 5, 0, 2, 6, 1, so that the numbers in the first one are 0, 2, 3, 6, 5, 1, 4.
        forest = (5, 5, 0, None, 3, None, 0)
        self.assertEqual(drops_of(forest, [3, 5, 0, 1, 6, 4, 2]), [4, 5])
        self.assertEqual([turned_pairs(forest, [3, 5, 0, 1, 6, 4, 2]), drop_sum(forest, [3, 5, 0, 1, 6, 4, 2])], [7, 5])
        self.assertEqual([turned_pairs(forest, walk(forest)), drop_sum(forest, walk(forest))], [0, 0])
        self.assertEqual([turned_pairs(forest, [3, 4, 5, 0, 2, 1, 6]), drop_sum(forest, [3, 4, 5, 0, 2, 1, 6])], [1, 1])
        self.assertEqual([turned_pairs(forest, [5, 1, 3, 4, 0, 2, 6]), drop_sum(forest, [5, 1, 3, 4, 0, 2, 6])], [7, 5])

    def test_small_forests(self):
        for forest in SMALL + LARGER:
            for one in all_sequences(forest):
                self.assertEqual(turned_pairs(forest, one), len(pairs_turned(forest, one)))
                self.assertEqual(drop_sum(forest, one), sum(len(one) - place for place in drops_of(forest, one)))

    def test_large_forests(self):
        for forest in LARGE:
            for seed in range(3):
                one = random_sequence(forest, seed)
                self.assertEqual(turned_pairs(forest, one), len(pairs_turned(forest, one)))
                self.assertEqual(drop_sum(forest, one), sum(len(one) - place for place in drops_of(forest, one)))
            self.assertEqual([turned_pairs(forest, walk(forest)), drop_sum(forest, walk(forest))], [0, 0])

    def test_all_turned(self):
        last = list(range(60))[::-1]
        self.assertEqual([turned_pairs(no_holders(60), last), drop_sum(no_holders(60), last)], [1770, 1770])
        self.assertEqual([turned_pairs(row(60), last[::-1]), drop_sum(row(60), last[::-1])], [0, 0])
        one = [0] + last[:-1]
        self.assertEqual([turned_pairs(one_above_all(60), one), drop_sum(one_above_all(60), one)], [1711, 1711])

    def test_one_thing(self):
        self.assertEqual([turned_pairs(ONE_THING, [0]), drop_sum(ONE_THING, [0])], [0, 0])

    def test_wrong_sequences(self):
        for function in (turned_pairs, drop_sum, turned_index):
            for value in (None, (0, 1, 2, 3, 4), [1, 0, 2, 3, 4], [0, 1, 2, 3], [0, 1, 2, 3, 4, 4], [0, True, 2, 3, 4]):
                with self.assertRaises(InvalidSequence):
                    function(EXAMPLE, value)


class Counts(unittest.TestCase):
    def test_example(self):
        self.assertEqual([turned_counts(EXAMPLE), most_turned(EXAMPLE)], [[1, 2, 3, 3, 3, 2, 1], 6])

    def test_small_forests_by_turned_pairs_and_by_drop_sum(self):
        for forest in SMALL + LARGER:
            there = all_sequences(forest)
            self.assertEqual(turned_counts(forest), tally([len(pairs_turned(forest, one)) for one in there]))
            self.assertEqual(turned_counts(forest), tally([drop_sum(forest, one) for one in there]))
            self.assertEqual(most_turned(forest), max(turned_pairs(forest, one) for one in there))

    def test_twelve_things_by_turned_pairs_and_by_drop_sum(self):
        for forest in TWELVE:
            self.assertEqual([turned_counts(forest)] * 2, counts_thing_by_thing(forest))

    def test_large_forests_by_shuffling(self):
        for forest in LARGE:
            self.assertEqual(turned_counts(forest), turned_by_shuffling(forest))

    def test_large_forests_by_their_brackets(self):
        # Point [9]: the product of [1] .. [n] is that of the numbers with all [size].
        for forest in LARGE[2:6] + TWELVE + SMALL:
            product, other_product = [1], turned_counts(forest)
            for thing, size in enumerate(sizes(forest)):
                product = multiplied(product, bracket(thing + 1))
                other_product = multiplied(other_product, bracket(size))
            self.assertEqual(product, other_product)

    def test_from_both_ends(self):
        for forest in SMALL + LARGER + LARGE:
            counts = turned_counts(forest)
            self.assertEqual(counts, counts[::-1])
            self.assertEqual([sum(counts), counts[0]], [count_by_shuffling(forest), 1])
            self.assertTrue(all(type(count) is int and count > 0 for count in counts))

    def test_the_greatest_number(self):
        for forest in SMALL + LARGER + LARGE:
            many = range(len(forest))
            # All pairs can be turned of which none is above the other one.
            free = [(a, b) for a in many for b in range(a) if not is_above(forest, a, b) and not is_above(forest, b, a)]
            self.assertEqual(most_turned(forest), len(free))
            self.assertEqual(len(turned_counts(forest)), len(free) + 1)

    def test_one_thing_rows_and_bushes(self):
        for forest in (ONE_THING, row(2), row(60), (1, 2, None)):
            self.assertEqual([turned_counts(forest), most_turned(forest)], [[1], 0])
        self.assertEqual(turned_counts(no_holders(60)), turned_counts(one_above_all(61)))
        self.assertEqual([most_turned(no_holders(60)), most_turned(one_above_all(60))], [1770, 1711])
        self.assertEqual(turned_counts(no_holders(60))[:4], [1, 59, comb(60, 2) - 1, comb(61, 3) - 60])
        # Two rows: the numbers of their shuffles, which are those of [60] .. [31] by [30] .. [1].
        two_rows = (None,) + tuple(range(29)) + (None,) + tuple(range(30, 59))
        self.assertEqual([sum(turned_counts(two_rows)), most_turned(two_rows)], [comb(60, 30), 900])
        self.assertEqual(turned_counts(two_rows)[:7], [1, 1, 2, 3, 5, 7, 11])

    def test_forests_with_the_same_sizes_are_alike(self):
        # Point [9]: the same numbers just where the same sizes are as often.
        by_counts, by_sizes = {}, {}
        for forest in [one for one in SMALL if len(one) == 4] + [one for one in LARGER if len(one) == 5]:
            counts = (len(forest), tuple(turned_counts(forest)))
            row_of_sizes = tuple(sorted(sizes(forest)))
            self.assertEqual(by_counts.setdefault(counts, row_of_sizes), row_of_sizes)
            self.assertEqual(by_sizes.setdefault(row_of_sizes, counts), counts)

    def test_the_names_of_the_things_do_not_count(self):
        for seed in range(5):
            forest = random_forest(50, seed)
            names = Random(seed).sample(range(50), 50)
            self.assertEqual(turned_counts(forest), turned_counts(renamed(forest, names)))

    def test_many_more_things(self):
        self.assertEqual(turned_counts(row(300)), [1])
        forest = (None,) + tuple(range(239)) + (5,) * 60
        counts = turned_counts(forest)
        self.assertEqual([sum(counts), len(counts)], [count_sequences(forest), most_turned(forest) + 1])


class ByTurned(unittest.TestCase):
    def check_all(self, forest):
        rows = {}
        for one in all_sequences(forest):
            rows.setdefault(len(pairs_turned(forest, one)), []).append(one)
        for turned in range(max(rows) + 1):
            there = rows[turned]
            self.assertEqual([nth_by_turned(forest, turned, index) for index in range(len(there))], there)
            self.assertEqual([turned_index(forest, one) for one in there], list(range(len(there))))
            for index in (-1, len(there), None):
                with self.assertRaises(InvalidIndex):
                    nth_by_turned(forest, turned, index)
        for turned in (-1, max(rows) + 1, None):
            with self.assertRaises(InvalidNumber):
                nth_by_turned(forest, turned, 0)

    def test_example(self):
        self.assertEqual(nth_by_turned(EXAMPLE, 2, 0), [0, 1, 2, 4, 3])

    def test_small_forests(self):
        for forest in SMALL + LARGER:
            self.check_all(forest)

    def test_one_thing(self):
        self.assertEqual([nth_by_turned(ONE_THING, 0, 0), turned_index(ONE_THING, [0])], [[0], 0])

    def test_none_and_all_turned(self):
        for forest in SMALL + LARGER + LARGE:
            self.assertEqual(nth_by_turned(forest, 0, 0), walk(forest))
            last = nth_by_turned(forest, most_turned(forest), 0)
            self.assertTrue(is_sequence(forest, last))
            self.assertEqual(len(pairs_turned(forest, last)), most_turned(forest))
            for turned in (0, most_turned(forest)):
                with self.assertRaises(InvalidIndex):
                    nth_by_turned(forest, turned, 1)

    def test_large_forests(self):
        for seed, forest in enumerate(LARGE):
            counts = turned_counts(forest)
            for turned in {0, 1 % len(counts), len(counts) // 3, len(counts) // 2, len(counts) - 1}:
                self.check_some(forest, turned, drawn_indexes(counts[turned], seed)[::2])
                for index in (-1, counts[turned], True):
                    with self.assertRaises(InvalidIndex):
                        nth_by_turned(forest, turned, index)

    def check_some(self, forest, turned, indexes):
        found = [nth_by_turned(forest, turned, index) for index in indexes]
        self.assertEqual(found, sorted(found))
        for one, index in zip(found, indexes):
            self.assertTrue(is_sequence(forest, one))
            self.assertEqual(len(pairs_turned(forest, one)), turned)
            self.assertEqual(turned_index(forest, one), index)

    def test_drawn_sequences_of_large_forests(self):
        for seed, forest in enumerate(LARGE):
            one = random_sequence(forest, seed)
            index = turned_index(forest, one)
            self.assertEqual(nth_by_turned(forest, turned_pairs(forest, one), index), one)

    def test_few_turned_pairs_of_large_forests(self):
        # One turned pair is one thing that has changed places with the one behind it.
        for forest in (no_holders(60), mixed_forest(60), random_forest(60, 60)):
            straight = walk(forest)
            there = []
            for at in range(59):
                changed = straight[:at] + [straight[at + 1], straight[at]] + straight[at + 2:]
                there += [changed] if is_sequence(forest, changed) else []
            self.assertEqual(turned_counts(forest)[1], len(there))
            self.assertEqual([nth_by_turned(forest, 1, index) for index in range(len(there))], sorted(there))

    def test_orders_of_six_things(self):
        there = [list(order) for order in permutations(range(6))]
        for turned in range(16):
            rows = [one for one in there if len(pairs_turned(no_holders(6), one)) == turned]
            self.assertEqual([nth_by_turned(no_holders(6), turned, k) for k in range(len(rows))], rows)
        self.assertEqual(sum(turned_counts(no_holders(7))), factorial(7))

    def test_order_of_the_errors(self):
        for turned, index, kind in [(7, 0, InvalidNumber), (7, -1, InvalidNumber), (True, None, InvalidNumber),
                                    (6, 1, InvalidIndex), (0, 1, InvalidIndex), (2, 3, InvalidIndex),
                                    (2, False, InvalidIndex), (10 ** 99, 0, InvalidNumber)]:
            with self.assertRaises(kind):
                nth_by_turned(EXAMPLE, turned, index)
            with self.assertRaises(kind):
                nth_by_turned(index=index, turned=turned, forest=EXAMPLE)

    def test_many_more_things(self):
        forest = (None,) + tuple(range(239)) + (5,) * 60
        one = random_sequence(forest, 2)
        self.assertEqual(nth_by_turned(forest, turned_pairs(forest, one), turned_index(forest, one)), one)


if __name__ == "__main__":
    unittest.main()
