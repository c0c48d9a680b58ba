"""What told sequences let: point [21]."""

import unittest
from itertools import chain, combinations, permutations
from math import factorial, prod
from random import Random

from counting import (LARGER, SMALL, all_forests, all_sequences, count_by_shuffling, drawn_indexes, is_above,
                      mixed_forest, no_holders, one_above_all, random_forest,
                      random_sequence, renamed, row, scattered, with_minus_ones)
from heldbehind.errors import InvalidIndex, InvalidTold
from heldbehind.forests import is_forest
from heldbehind.sequences import count_sequences, is_sequence, nth_sequence
from heldbehind.told import always_ahead, count_forests, forest_of, nearest_forest, nth_forest

TOLD = [[0, 1, 2, 3], [0, 2, 1, 3]]
THIRTY = [make(30) for make in (row, one_above_all, no_holders, mixed_forest)]
THIRTY += [scattered(mixed_forest(30), 7), scattered(row(30), 11), random_forest(30, 1), random_forest(29, 2)]


def orders(many):
    return [list(order) for order in permutations(range(many))]


def ahead_by_hand(told):
    things = range(len(told[0]))
    return [[other for other in things if all(other in one[:one.index(thing)] for one in told)] for thing in things]


def lets(forest, sequence):
    """Whether each thing of an order stands behind its holder."""
    return all(holder is None or holder in sequence[:place]
               for place, holder in enumerate(forest[thing] for thing in sequence))


def drawn_sequences(forest, many, seed):
    return [random_sequence(forest, seed * 100 + at) for at in range(many)]


class Small(unittest.TestCase):
    def check(self, told, forests):
        there = sorted([one for one in forests if all(lets(one, sequence) for sequence in told)], key=with_minus_ones)
        ahead = ahead_by_hand(told)
        self.assertEqual(always_ahead(told), ahead)
        self.assertEqual(count_forests(told), len(there))
        self.assertEqual([nth_forest(told, index) for index in range(len(there))], there)
        for index in (-1, len(there)):
            with self.assertRaises(InvalidIndex):
                nth_forest(told, index)
        nearest = nearest_forest(told)
        self.assertIn(nearest, there)
        for thing, others in enumerate(ahead):
            last = max(others, key=told[0].index) if others else None
            self.assertEqual(nearest[thing], last)

    def test_example(self):
        self.assertEqual([always_ahead(TOLD), count_forests(TOLD), forest_of(TOLD), nearest_forest(TOLD)],
                         [[[], [0], [0], [0, 1, 2]], 16, None, (None, 0, 0, 2)])
        self.check(TOLD, all_forests(4))

    def test_one_thing(self):
        for told in ([[0]], [[0], [0]], [[0]] * 60):
            self.assertEqual([always_ahead(told), count_forests(told)], [[[]], 1])
            self.assertEqual([nth_forest(told, 0), forest_of(told), nearest_forest(told)], [(None,)] * 3)
            for index in (-1, 1, True, False, None):
                with self.assertRaises(InvalidIndex):
                    nth_forest(told, index)

    def test_all_that_can_be_told_of_few_things(self):
        for many in (1, 2, 3):
            forests = all_forests(many)
            by_sequences = {tuple(map(tuple, all_sequences(forest))): forest for forest in forests}
            self.assertEqual(len(by_sequences), len(forests))
            for told in chain.from_iterable(combinations(orders(many), k) for k in range(1, factorial(many) + 1)):
                due = by_sequences.get(tuple(map(tuple, told)))
                self.check(list(told), forests)
                self.assertEqual(forest_of(list(told)), due)
                # In another order, and each one told twice.
                self.check(list(told[::-1]), forests)
                self.assertEqual(forest_of(list(told[::-1])), due)
                self.assertEqual(forest_of(list(told + told)), due)

    def test_what_is_drawn_of_four_things(self):
        forests = all_forests(4)
        by_sequences = {tuple(map(tuple, all_sequences(forest))): forest for forest in forests}
        for seed in range(200):
            draw = Random(seed)
            told = draw.sample(orders(4), draw.choice([1, 2, 2, 3, 4, 6]))
            self.check(told, forests)
            self.assertEqual(forest_of(told), by_sequences.get(tuple(sorted(map(tuple, told)))))

    def test_all_sequences_of_a_forest(self):
        for forest in SMALL + LARGER:
            there = all_sequences(forest)
            draw = Random(len(there))
            self.assertEqual(forest_of(there), forest)
            self.assertEqual(nearest_forest(there), forest)
            things = range(len(forest))
            self.assertEqual(always_ahead(there), [[a for a in things if is_above(forest, a, b)] for b in things])
            for told in (there[::-1], draw.sample(there, len(there)), there + there, there + there[:1]):
                self.assertEqual(forest_of(told), forest)

    def test_one_left_out_and_one_too_many(self):
        for forest in SMALL + [one for one in LARGER if len(one) < 7]:
            there = all_sequences(forest)
            by_sequences = {tuple(map(tuple, all_sequences(one))): one for one in SMALL if len(one) == len(forest)}
            others = [order for order in orders(len(forest)) if order not in there]
            for at in range(0, len(there), 1 + len(there) // 9):
                less = there[:at] + there[at + 1:]
                if less and len(forest) < 5:
                    self.assertEqual(forest_of(less), by_sequences.get(tuple(map(tuple, less))))
                elif less:
                    self.assertNotEqual(forest_of(less), forest)
                # Told twice, the ones that are left do not stand for the one that is left out.
                self.assertNotEqual(forest_of(less + less[:1]) if less else None, forest)
            for order in others[::1 + len(others) // 9]:
                self.assertNotEqual(forest_of(there + [order]), forest)
                if len(forest) < 5:
                    more = sorted(there + [order])
                    self.assertEqual(forest_of(more), by_sequences.get(tuple(map(tuple, more))))

    def test_let_by_several_forests_but_all_of_none(self):
        for told, many in [(TOLD, 16), ([[0, 1, 2], [2, 1, 0]], 1), ([[0, 1, 2, 3], [0, 3, 2, 1]], 8),
                           ([[1, 0, 2], [0, 1, 2]], 3)]:
            self.assertEqual(count_forests(told), many)
            self.assertIs(forest_of(told), None)

    def test_the_last_one_goes_by_the_first_told_list(self):
        # 0 and 1 are ahead of 2 in both, and the one of them that is last is not the same.
        self.assertEqual(nearest_forest([[0, 1, 2], [1, 0, 2]]), (None, None, 1))
        self.assertEqual(nearest_forest([[1, 0, 2], [0, 1, 2]]), (None, None, 0))
        self.assertEqual(nearest_forest([[3, 1, 0, 2], [1, 3, 0, 2]]), (1, None, 0, None))
        self.assertEqual(nearest_forest([[1, 3, 0, 2], [3, 1, 0, 2]]), (3, None, 0, None))


class Large(unittest.TestCase):
    def test_drawn_sequences(self):
        for seed, forest in enumerate(THIRTY):
            for many in (1, 2, 5, 60):
                self.check(forest, drawn_sequences(forest, many, seed), seed)

    def check(self, forest, told, seed):
        ahead = ahead_by_hand(told)
        self.assertEqual(always_ahead(told), ahead)
        many = prod(len(others) + 1 for others in ahead)
        self.assertEqual(count_forests(told), many)
        indexes = drawn_indexes(many, seed)
        found = [nth_forest(told, index) for index in indexes]
        self.assertEqual(found, sorted(found, key=with_minus_ones))
        self.assertEqual(len(set(found)), len(indexes))
        self.assertEqual(found[0], no_holders(len(forest)))
        self.assertEqual(found[-1], tuple(max(others, default=None) for others in ahead))
        for one, index in zip(found, indexes):
            self.assertTrue(is_forest(one) and all(is_sequence(one, sequence) for sequence in told))
            # Its index, by the places of its holders among those that there are.
            place = 0
            for others, holder in zip(ahead, one):
                place = place * (len(others) + 1) + (0 if holder is None else others.index(holder) + 1)
            self.assertEqual(place, index)
        for index in (-1, many, many + 1):
            with self.assertRaises(InvalidIndex):
                nth_forest(told, index)
        self.check_nearest(told, ahead)

    def check_nearest(self, told, ahead):
        nearest = nearest_forest(told)
        self.assertTrue(is_forest(nearest) and all(lets(nearest, sequence) for sequence in told))
        for thing, others in enumerate(ahead):
            ordered = [other for other in told[0] if other in others]
            self.assertEqual(nearest[thing], ordered[-1] if ordered else None)
        many = count_by_shuffling(nearest)
        self.assertEqual(forest_of(told), nearest if many == len(set(map(tuple, told))) else None)

    def test_all_sequences_of_large_forests(self):
        # A row of which one thing, or two, or a bush at its end, can stand at many places.
        loose = (None,) + tuple(range(27)) + (5, None)
        bush = (None,) + tuple(range(26)) + (26, 26, 26)
        for forest in (row(30), scattered(row(30), 7), row(29) + (None,), row(29) + (7,), bush,
                       scattered(row(29) + (None,), 7), (None,) + tuple(range(27)) + (20, 21), loose,
                       renamed(loose, list(range(30))[::-1])):
            many = count_sequences(forest)
            self.assertTrue(many < 1000)
            there = [nth_sequence(forest, index) for index in range(many)]
            self.assertEqual([forest_of(there), nearest_forest(there)], [forest, forest])
            self.assertEqual(forest_of(there[::-1] + there[:3]), forest)
            if many > 1:
                for at in {0, many // 2, many - 1}:
                    self.assertNotEqual(forest_of(there[:at] + there[at + 1:]), forest)
                    self.assertNotEqual(forest_of(there[:at] + there[at + 1:] + there[at - 1:at]), forest)
            self.assertNotEqual(forest_of(there + [there[0][::-1]]), forest)

    def test_one_told_list(self):
        for seed in range(3):
            order = Random(seed).sample(range(30), 30)
            as_row = renamed(row(30), order)
            self.assertEqual([forest_of([order]), nearest_forest([order])], [as_row, as_row])
            self.assertEqual([forest_of([order] * 60), nearest_forest([order] * 60)], [as_row, as_row])
            self.assertEqual(count_forests([order]), factorial(30))
            self.assertEqual(nth_forest([order], 0), no_holders(30))
            self.assertEqual(always_ahead([order])[order[29]], sorted(order[:29]))

    def test_both_ways(self):
        order = list(range(30))
        told = [order, order[::-1]]
        self.assertEqual([always_ahead(told), count_forests(told)], [[[]] * 30, 1])
        self.assertEqual([nth_forest(told, 0), nearest_forest(told), forest_of(told)], [no_holders(30)] * 2 + [None])

    def test_many_more_things(self):
        told = drawn_sequences(mixed_forest(200), 3, 1)
        forest = nearest_forest(told)
        self.assertTrue(all(is_sequence(forest, one) for one in told))
        self.assertEqual(is_forest(nth_forest(told, count_forests(told) - 1)), True)
        self.assertEqual(len(always_ahead(told)), 200)


class Wrong(unittest.TestCase):
    def test_values_that_are_not_told(self):
        values = [None, True, 0, "", "01", (), ([0, 1],), [], {}, {0: [0]}, [()], [[]], [[], []], [[0], []], [[0], [1]],
                  [[1]], [[0, 0]], [[0, 2]], [[-1, 0]], [[1, 2]], [[0, 1], [0]], [[0], [0, 1]], [[0, 1], [1, 1]],
                  [(0, 1)], [[0, 1], (1, 0)], ["01"], [0], [None], [[True]], [[False]], [[0, True]], [[False, 1]],
                  [["0"]], [[0.0]], [[None]], [[[0]]], [[0, 1], None], [[0, 1], 5], [{0: 1}], [{0}], [range(2)],
                  [[10 ** 99]], [[0, 1, 2], [0, 1]], [[0, 1], [0, 1, 2]], [[0, 1], [0, 1], [0, 1, 2, 3]]]
        for value in values:
            for function in (always_ahead, count_forests, forest_of, nearest_forest):
                with self.assertRaises(InvalidTold):
                    function(value)
                with self.assertRaises(InvalidTold):
                    function(told=value)
            for index in (0, -1, None):
                with self.assertRaises(InvalidTold):
                    nth_forest(value, index)
                with self.assertRaises(InvalidTold):
                    nth_forest(index=index, told=value)

    def test_indexes(self):
        for index in (None, True, False, -1, 16, 17, 10 ** 99, -10 ** 99, "0", 0.0, [0], (0,), {}):
            with self.assertRaises(InvalidIndex):
                nth_forest(TOLD, index)
        self.assertEqual([nth_forest(TOLD, 0), nth_forest(index=15, told=TOLD)], [(None,) * 4, (None, 0, 0, 2)])

    def test_lists_are_new(self):
        told = [list(one) for one in TOLD]
        found = always_ahead(told)
        lists = found + [found] + always_ahead(told)
        self.assertEqual(len({id(one) for one in lists}), 9)
        for one in found:
            one.append(9)
        self.assertEqual(always_ahead(told), [[], [0], [0], [0, 1, 2]])
        self.assertEqual(told, TOLD)
        # Changing what was told behind the call changes nothing either.
        found, first = always_ahead(told), nearest_forest(told)
        told[0].reverse()
        told.pop()
        self.assertEqual([found, first], [[[], [0], [0], [0, 1, 2]], (None, 0, 0, 2)])

    def test_a_list_told_twice_is_one_object(self):
        one = [2, 0, 1]
        self.assertEqual(always_ahead([one, one]), [[2], [0, 2], []])
        self.assertEqual(forest_of([one, one, [2, 0, 1]]), (2, 0, None))


if __name__ == "__main__":
    unittest.main()
