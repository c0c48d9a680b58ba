"""Sequences: points [5], [6] and [12]."""

import unittest
from collections import Counter
from fractions import Fraction
from inspect import isgenerator
from itertools import islice, permutations, product
from math import factorial, prod

from counting import (EXAMPLE, LARGER, ONE_THING, SIXTY, SMALL, all_sequences, count_by_shuffling, drawn_indexes,
                      is_above, mixed_forest, no_holders, one_above_all, random_forest, random_sequence, row)
from heldbehind.errors import InvalidForest, InvalidIndex
from heldbehind.forests import walk
from heldbehind.sequences import (count_sequences, is_sequence, next_sequence, nth_sequence, sequence_index,
                                  sequences)

LARGE = SIXTY + [random_forest(many, many) for many in (41, 57, 59, 60)]


def size_by_hand(forest, thing):
    return 1 + sum(1 for other in range(len(forest)) if is_above(forest, thing, other))


class IsSequence(unittest.TestCase):
    def test_all_lists_of_small_forests(self):
        for forest in [forest for forest in SMALL if len(forest) <= 3]:
            there = all_sequences(forest)
            for length in range(5):
                for items in product(range(-1, len(forest) + 1), repeat=length):
                    self.assertIs(is_sequence(forest, list(items)), list(items) in there)

    def test_all_orders(self):
        for forest in [forest for forest in SMALL if len(forest) == 4] + LARGER:
            there = {tuple(one) for one in all_sequences(forest)}
            for order in permutations(range(len(forest))):
                self.assertIs(is_sequence(forest, list(order)), order in there)

    def test_any_other_value(self):
        values = [None, True, False, 0, 1, 10 ** 100, 1.5, "", "0", "0 > 1", "01", b"\x00\x01", [], (), (0,), (0, 1),
                  {}, {0: 0, 1: 1}, {0, 1}, range(2), iter([0, 1]), object(), list, is_sequence, [0], [1], [0, 0],
                  [0, 1, 2], [0, 1, 1], [1, 0], [0, True], [False, 1], [False, True], [0, 1.0], [0.0, 1], ["0", "1"],
                  [0, "1"], [0, None], [None, 0], [0, -1], [-2, -1], [0, 2], [0, 10 ** 100], [[0], [1]], [[0, 1]],
                  [(0, 1)], [0, [1]], [0, {}], [{0}, 1], [b"0", 1], [0, object()], (None, 0)]
        for value in values:
            self.assertIs(is_sequence((None, 0), value), False, value)
        self.assertIs(is_sequence((None, 0), [0, 1]), True)

    def test_one_thing(self):
        self.assertIs(is_sequence(ONE_THING, [0]), True)
        for value in ([], [1], [0, 0], [None], [False], (0,), 0, None):
            self.assertIs(is_sequence(ONE_THING, value), False)

    def test_large_forests(self):
        for seed, forest in enumerate(LARGE):
            good = random_sequence(forest, seed)
            self.assertIs(is_sequence(forest, good), True)
            self.assertIs(is_sequence(forest, walk(forest)), True)
            for wrong in (good[:-1], good + [0], good + [len(forest)], good[1:] + [good[1]], tuple(good),
                          [str(thing) for thing in good], [thing + 1 for thing in good]):
                self.assertIs(is_sequence(forest, wrong), False)
            held = [thing for thing in good if forest[thing] is not None]
            for thing in held[:3] + held[-3:]:
                at, holder_at = good.index(thing), good.index(forest[thing])
                changed = list(good)
                changed[at], changed[holder_at] = changed[holder_at], changed[at]
                self.assertIs(is_sequence(forest, changed), False)

    def test_no_forest(self):
        for forest in (None, [None], (), (0,), "-"):
            for value in ([0], None, []):
                with self.assertRaises(InvalidForest):
                    is_sequence(forest, value)


class Numbers(unittest.TestCase):
    def test_examples(self):
        self.assertEqual(count_sequences(EXAMPLE), 15)
        self.assertEqual([nth_sequence(EXAMPLE, k) for k in (0, 1, 14)],
                         [[0, 1, 2, 3, 4], [0, 1, 2, 4, 3], [4, 0, 2, 1, 3]])
        self.assertEqual(sequence_index(EXAMPLE, [0, 4, 1, 3, 2]), 10)

    def test_small_forests(self):
        for forest in SMALL + LARGER:
            there = all_sequences(forest)
            self.assertEqual(there, sorted(there))
            self.assertEqual(count_sequences(forest), len(there))
            self.assertEqual([nth_sequence(forest, index) for index in range(len(there))], there)
            self.assertEqual([sequence_index(forest, one) for one in there], list(range(len(there))))
            self.assertEqual([next_sequence(forest, one) for one in there], there[1:] + [None])
            self.assertEqual(list(sequences(forest)), there)

    def test_one_thing(self):
        self.assertEqual([count_sequences(ONE_THING), nth_sequence(ONE_THING, 0)], [1, [0]])
        self.assertEqual(sequence_index(ONE_THING, [0]), 0)
        self.assertIs(next_sequence(ONE_THING, [0]), None)
        self.assertEqual(list(sequences(ONE_THING)), [[0]])

    def test_the_number_is_a_factorial_by_all_sizes(self):
        for forest in SMALL + LARGER + LARGE:
            all_sizes = [size_by_hand(forest, thing) for thing in range(len(forest))]
            self.assertEqual(count_sequences(forest) * prod(all_sizes), factorial(len(forest)))
            self.assertEqual(count_sequences(forest), count_by_shuffling(forest))

    def test_what_can_be_next_by_sizes(self):
        # Point [6]: behind each beginning a share of size / m.
        for forest in SMALL + LARGER:
            there = all_sequences(forest)
            begun = Counter(tuple(one[:place]) for one in there for place in range(len(forest) + 1))
            for beginning, many in begun.items():
                left = len(forest) - len(beginning)
                for thing, holder in enumerate(forest):
                    ready = thing not in beginning and (holder is None or holder in beginning)
                    share = Fraction(size_by_hand(forest, thing), left) if ready else Fraction(0)
                    self.assertEqual(Fraction(begun[beginning + (thing,)], many), share)

    def test_large_forests(self):
        for seed, forest in enumerate(LARGE):
            many = count_sequences(forest)
            indexes = drawn_indexes(many, seed)
            found = [nth_sequence(forest, index) for index in indexes]
            self.assertEqual(found, sorted(found))
            for index, one in zip(indexes, found):
                self.assertIs(is_sequence(forest, one), True)
                self.assertEqual(sequence_index(forest, one), index)
                if index + 1 < many:
                    self.assertEqual(next_sequence(forest, one), nth_sequence(forest, index + 1))
                else:
                    self.assertIs(next_sequence(forest, one), None)
            for wrong in (-1, many, many + 1, 10 ** 99):
                with self.assertRaises(InvalidIndex):
                    nth_sequence(forest, wrong)

    def test_drawn_sequences_of_large_forests(self):
        for forest in LARGE:
            drawn = sorted(random_sequence(forest, seed) for seed in range(8))
            indexes = [sequence_index(forest, one) for one in drawn]
            self.assertEqual(indexes, sorted(indexes))
            self.assertEqual([nth_sequence(forest, index) for index in indexes], drawn)
            self.assertTrue(all(0 <= index < count_sequences(forest) for index in indexes))

    def test_first_and_last_of_large_forests(self):
        many = factorial(60)
        self.assertEqual(nth_sequence(no_holders(60), 0), list(range(60)))
        self.assertEqual(nth_sequence(no_holders(60), many - 1), list(range(60))[::-1])
        self.assertEqual(next_sequence(no_holders(60), list(range(60))), list(range(58)) + [59, 58])
        self.assertEqual([count_sequences(row(60)), nth_sequence(row(60), 0)], [1, list(range(60))])
        self.assertIs(next_sequence(row(60), list(range(60))), None)
        self.assertEqual(nth_sequence(one_above_all(60), factorial(59) - 1), [0] + list(range(59, 0, -1)))

    def test_by_name(self):
        self.assertEqual(nth_sequence(index=1, forest=EXAMPLE), [0, 1, 2, 4, 3])
        self.assertEqual(sequence_index(sequence=[0, 4, 1, 3, 2], forest=EXAMPLE), 10)
        self.assertEqual(next_sequence(sequence=[0, 1, 2, 3, 4], forest=EXAMPLE), [0, 1, 2, 4, 3])
        self.assertIs(is_sequence(value=[0, 1, 2, 3, 4], forest=EXAMPLE), True)
        self.assertEqual([count_sequences(forest=EXAMPLE), len(list(sequences(forest=EXAMPLE)))], [15, 15])

    def test_many_more_things(self):
        for forest in (row(300), one_above_all(300), no_holders(300), mixed_forest(300), random_forest(300, 5)):
            many = count_sequences(forest)
            for index in (0, many // 3, many - 1):
                one = nth_sequence(forest, index)
                self.assertIs(is_sequence(forest, one), True)
                self.assertEqual(sequence_index(forest, one), index)
            self.assertIs(next_sequence(forest, one), None)


class Generators(unittest.TestCase):
    def test_it_is_a_generator_of_lists(self):
        steps = sequences(EXAMPLE)
        self.assertTrue(isgenerator(steps))
        self.assertIs(type(next(steps)), list)

    def test_the_first_ones_come_without_the_others(self):
        for forest in LARGE + [no_holders(120)]:
            first = list(islice(sequences(forest), 25))
            many = min(25, count_sequences(forest))
            self.assertEqual(first, [nth_sequence(forest, index) for index in range(many)])

    def test_two_at_once(self):
        there = all_sequences(EXAMPLE)
        first, second, other = sequences(EXAMPLE), sequences(EXAMPLE), sequences((None, None, 1))
        self.assertEqual([next(first), next(first), next(second)], [there[0], there[1], there[0]])
        self.assertEqual([next(other), next(first), next(other)], [[0, 1, 2], there[2], [1, 0, 2]])
        self.assertEqual(list(second), there[1:])
        self.assertEqual([list(first), list(other)], [there[3:], [[1, 2, 0]]])

    def test_changing_a_yielded_one_changes_nothing_else(self):
        for forest in SMALL + [EXAMPLE]:
            there = all_sequences(forest)
            found = []
            for one in sequences(forest):
                found.append(list(one))
                one.reverse()
                one.append("more")
                del one[0]
            self.assertEqual(found, there)

    def test_yielded_ones_are_different_objects(self):
        found = list(sequences(EXAMPLE))
        self.assertEqual(len({id(one) for one in found}), 15)
        found[0].clear()
        self.assertEqual(found[1:], all_sequences(EXAMPLE)[1:])

    def test_errors(self):
        for forest in (None, [None], (), (0,), (1, 0), "-", (None, True)):
            with self.assertRaises(InvalidForest):
                next(sequences(forest))
            with self.assertRaises(InvalidForest):
                list(sequences(forest=forest))


if __name__ == "__main__":
    unittest.main()
