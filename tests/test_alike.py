"""Alike forests, sizes and shapes: points [9], [19] and [20]."""

import unittest
from itertools import combinations_with_replacement, permutations
from random import Random

from counting import (EXAMPLE, LARGER, ONE_THING, SIXTY, SMALL, all_sequences, count_by_shuffling, mixed_forest,
                      multiplied, no_holders, one_above_all, pairs_turned, random_forest, renamed, row,
                      shape_code, sizes_by_hand, tally, turned_by_shuffling, walk_by_calls, walked_forests,
                      with_minus_ones)
from heldbehind.alike import (are_alike, count_shapes, forest_with, parting_size, plain, same_number, shapes_with,
                              sizes_back)
from heldbehind.errors import InvalidCounts, InvalidForest, InvalidNumber, InvalidSizes
from heldbehind.forests import is_forest, sizes, walk
from heldbehind.turned import turned_counts

LARGE = SIXTY + [random_forest(many, many) for many in (41, 57, 59, 60)]
# Alike, but of two shapes: a row of three things and two beside it, or three in a bush and a row of two beside them.
TWINS = ((None, 0, 1, None, None), (None, 0, 0, None, 3))


def shapes_by_hand(many):
    """The plain forests of many things, ascending: of all that are walked straight, the first one of each shape."""
    found = {}
    for forest in walked_forests(many):
        found.setdefault(shape_code(forest), forest)
    return list(found.values())


def parting_by_hand(forest, other):
    one, other_one = sizes_by_hand(forest), sizes_by_hand(other)
    parting = [size for size in range(1, 400) if one.count(size) != other_one.count(size)]
    return parting[0] if parting else None


def whole(many):
    """[1] [2] .. [many]."""
    found = [1]
    for size in range(1, many + 1):
        found = multiplied(found, [1] * size)
    return found


def divided(counts, divisor):
    """The quotient of two lists of numbers by powers of q whose divisor ends with 1, or None."""
    rest, found = list(counts), []
    while len(rest) >= len(divisor):
        top = rest[-1]
        found.insert(0, top)
        for at, number in enumerate(divisor):
            rest[len(rest) - len(divisor) + at] -= top * number
        rest.pop()
    return None if any(rest) else found


class Alike(unittest.TestCase):
    def check(self, forest, other):
        parting = parting_by_hand(forest, other)
        for one, other_one in ((forest, other), (other, forest)):
            self.assertIs(are_alike(one, other_one), parting is None)
            self.assertEqual(parting_size(one, other_one), parting)

    def test_as_many_sequences_by_turned_pairs(self):
        # Point [9], by the numbers that come from all sequences.
        some = [one for one in SMALL if len(one) > 1] + [one for one in LARGER if len(one) < 6]
        counts = {one: tally([len(pairs_turned(one, sequence)) for sequence in all_sequences(one)]) for one in some}
        for forest in some:
            for other in some[::7]:
                alike = len(forest) == len(other) and counts[forest] == counts[other]
                self.assertIs(are_alike(forest, other), alike)
                self.assertIs(parting_size(forest, other) is None, alike)
                self.assertIs(same_number(forest, other), sum(counts[forest]) == sum(counts[other]))

    def test_small_forests(self):
        for forest in SMALL[::3] + LARGER:
            for other in SMALL[1::5] + LARGER:
                self.check(forest, other)
                self.assertIs(same_number(forest, other), count_by_shuffling(forest) == count_by_shuffling(other))

    def test_forests_of_five_things(self):
        forests = walked_forests(5)
        for forest in forests:
            for other in forests:
                self.check(forest, other)

    def test_large_forests(self):
        for forest in LARGE:
            for other in LARGE:
                self.check(forest, other)
                self.assertIs(same_number(forest, other), count_by_shuffling(forest) == count_by_shuffling(other))
            names = Random(len(forest)).sample(range(len(forest)), len(forest))
            self.check(forest, renamed(forest, names))
            self.assertIs(same_number(forest, renamed(forest, names)), True)

    def test_twins(self):
        self.assertIs(are_alike(*TWINS), True)
        self.assertIs(parting_size(*TWINS), None)
        self.assertIs(same_number(*TWINS), True)
        self.assertNotEqual(plain(TWINS[0]), plain(TWINS[1]))
        self.assertEqual(shapes_with([1, 1, 1, 2, 3]), [plain(TWINS[0]), plain(TWINS[1])])

    def test_alike_forests_of_two_shapes(self):
        for many in (5, 6, 7):
            by_sizes = {}
            for forest in shapes_by_hand(many):
                by_sizes.setdefault(tuple(sorted(sizes_by_hand(forest))), []).append(forest)
            twins = [pair for pair in by_sizes.values() if len(pair) > 1]
            self.assertTrue(twins)
            for forest, other in [pair[:2] for pair in twins]:
                self.assertNotEqual(shape_code(forest), shape_code(other))
                self.assertIs(are_alike(forest, other), True)
                self.assertIs(parting_size(forest, other), None)
                self.assertIs(same_number(forest, other), True)
                self.assertEqual(turned_counts(forest), turned_counts(other))

    def test_one_thing(self):
        self.assertIs(are_alike(ONE_THING, ONE_THING), True)
        self.assertIs(parting_size(ONE_THING, ONE_THING), None)
        self.assertIs(same_number(ONE_THING, ONE_THING), True)

    def test_unlike_numbers_of_things(self):
        cases = [(ONE_THING, (None, 0), 2, True), (ONE_THING, (None, None), 1, False), (row(3), row(60), 4, True),
                 (row(59), row(60), 60, True), (no_holders(4), one_above_all(5), 5, True),
                 (no_holders(59), one_above_all(60), 60, True), (no_holders(5), no_holders(6), 1, False),
                 (row(2), (None, 0, None), 1, False), ((None, 0, 1, None), no_holders(2), 2, False),
                 ((None, None, 0, 0), (None, 0, None), 1, False), ((None, 0, 0), no_holders(2), 3, True)]
        for forest, other, size, same in cases:
            for one, other_one in ((forest, other), (other, forest)):
                self.assertIs(are_alike(one, other_one), False)
                self.assertEqual(parting_size(one, other_one), size)
                self.assertIs(same_number(one, other_one), same)

    def test_as_many_things_and_sequences_but_not_alike(self):
        # The products of the sizes are equal, the sizes are not.
        found = 0
        forests = shapes_by_hand(6)
        for forest in forests:
            for other in forests:
                same = count_by_shuffling(forest) == count_by_shuffling(other)
                self.assertIs(same_number(forest, other), same)
                found += same and not are_alike(forest, other)
        self.assertGreater(found, 0)

    def test_the_least_size_of_several(self):
        self.assertEqual(parting_size((None, 0, 1, 2, 3, None), (None, 0, 0, 1, 1, None)), 1)
        self.assertEqual(parting_size((None, 0, None, 2), (None, 0, 0, None)), 1)
        self.assertEqual(parting_size((None, 0, 1, 1), (None, 0, 1, 0)), 2)
        self.assertEqual(parting_size((None, None, 1, None, 3), (None, 0, 0, None, None)), 1)
        self.assertEqual(parting_size((None, None, 1, 2, 1), (None, None, 1, None, 3)), 2)
        self.assertEqual(parting_size((None, 0, 1, None, 3, 4), (None, 0, 1, 2, None, 4)), 3)
        self.assertEqual(parting_size((None, 0, 1, 2, 3, None), (None, 0, 1, None, 3, 4)), 2)

    def test_wrong_forests(self):
        for function in (are_alike, parting_size, same_number):
            for forest, other in [(None, EXAMPLE), (EXAMPLE, None), ((0,), (0,)), (EXAMPLE, list(EXAMPLE)), ((), ())]:
                with self.assertRaises(InvalidForest):
                    function(forest, other)


class SizesBack(unittest.TestCase):
    def test_examples(self):
        self.assertEqual(sizes_back([1, 2, 3, 3, 3, 2, 1], 5), [1, 1, 1, 2, 4])

    def test_all_lists_of_few_sizes(self):
        # Of many things, one list of numbers for each list of sizes whose brackets divide the product.
        for many in range(1, 7):
            counted = {}
            for size_list in combinations_with_replacement(range(1, many + 1), many):
                below = [1]
                for size in size_list:
                    below = multiplied(below, [1] * size)
                counts = divided(whole(many), below)
                if counts is not None:
                    self.assertNotIn(tuple(counts), counted)
                    counted[tuple(counts)] = list(size_list)
            for counts, size_list in counted.items():
                self.assertEqual(sizes_back(list(counts), many), size_list)
                self.check_close_ones(list(counts), many, counted)

    def check_close_ones(self, counts, many, counted):
        close = [counts[:-1], counts[1:], counts + [1], counts + [0], [0] + counts, [1] + counts, counts + [0, 0, 1],
                 [-number for number in counts], [2 * number for number in counts]]
        for at in range(len(counts)):
            for by in (-1, 1):
                close.append(counts[:at] + [counts[at] + by] + counts[at + 1:])
        for wrong in [one for one in close if one]:
            self.assertEqual(sizes_back(wrong, many), counted.get(tuple(wrong)), (wrong, many))

    def test_all_forests(self):
        for forest in SMALL + LARGER + walked_forests(6):
            counts = turned_by_shuffling(forest)
            self.assertEqual(sizes_back(counts, len(forest)), sorted(sizes_by_hand(forest)))

    def test_large_forests(self):
        for forest in LARGE + [no_holders(60), row(60), one_above_all(60), mixed_forest(60)]:
            counts = turned_by_shuffling(forest)
            many = len(forest)
            self.assertEqual(sizes_back(counts, many), sorted(sizes_by_hand(forest)))
            self.assertIs(sizes_back(counts + [0], many), None)
            if len(counts) > 1:
                self.assertIs(sizes_back(counts + [1], many), None)
                self.assertIs(sizes_back(counts[:-1], many), None)
                middle = len(counts) // 2
                changed = counts[:middle] + [counts[middle] + 1] + counts[middle + 1:]
                self.assertIs(sizes_back(changed, many), None)
                # Also where the first items, and so the sizes, are the ones of the forest.
                self.assertIs(sizes_back(counts[:-1] + [2], many), None)

    def test_of_more_or_fewer_things(self):
        for forest in (no_holders(5), EXAMPLE, row(4), one_above_all(7), mixed_forest(20)):
            counts = turned_by_shuffling(forest)
            many = len(forest)
            # Under one more thing that holds all the others the numbers are the same.
            longer = sorted(sizes_by_hand(forest)) + [many + 1]
            self.assertEqual(sizes_back(counts, many + 1), longer)
            self.assertEqual(sizes_back(counts, many + 2), longer + [many + 2])
            greatest = sizes_by_hand(forest).count(many)
            self.assertEqual(sizes_back(counts, many - 1), sorted(sizes_by_hand(forest))[:-1] if greatest else None)

    def test_no_sizes_of_a_forest(self):
        self.assertEqual(sizes_back([1, 0, 1], 4), [1, 2, 2, 3])
        self.assertEqual(shapes_with([1, 2, 2, 3]), [])
        self.assertIs(sizes_back([1, 0, 1], 3), None)
        self.assertIs(sizes_back([1, 0, 0, 1], 4), None)
        self.assertEqual(sizes_back([1, 0, 0, 1], 6), [1, 2, 3, 3, 4, 5])

    def test_one_thing(self):
        self.assertEqual(sizes_back([1], 1), [1])
        for counts in ([0], [2], [-1], [1, 1], [1, 0], [1, -1], [0, 1], [1, 0, 0]):
            self.assertIs(sizes_back(counts, 1), None)

    def test_too_few_sizes(self):
        # 1 - q in place of a size 1: it comes out even, but with fewer than many sizes.
        self.assertIs(sizes_back([1, -1], 1), None)
        self.assertIs(sizes_back([1, -1], 2), None)
        self.assertIs(sizes_back([1, -2, 1], 2), None)
        for many in (1, 2, 3, 5, 20, 60):
            product = [1]
            for size in range(1, many + 1):
                product = multiplied(product, [1] + [0] * (size - 1) + [-1])
            self.assertIs(sizes_back(product, many), None)
            self.assertIs(sizes_back(divided(product, [-1, 1]), many), None)

    def test_ends_with_zero(self):
        for counts in ([0], [1, 0], [1, 2, 3, 3, 3, 2, 1, 0], [1, 1, 0], [0, 0], [1] + [0] * 2000):
            for many in (1, 2, 3, 5, 60):
                self.assertIs(sizes_back(counts, many), None)

    def test_great_numbers(self):
        great = 10 ** 99
        for counts in ([1, great], [great], [1, -great], [-great, 1], [great] * 2000, [1] + [great] * 1770,
                       [1, 59, great], [1, 1, 1, great], [0, great]):
            for many in (1, 2, 5, 60):
                self.assertIs(sizes_back(counts, many), None)

    def test_whole_product(self):
        # No bracket but [1] is divided by.
        for many in (1, 2, 3, 10, 60):
            self.assertEqual(sizes_back(whole(many), many), [1] * many)
            self.assertEqual(sizes_back([1], many), list(range(1, many + 1)))

    def test_longer_lists(self):
        self.assertIs(sizes_back([1] * 3000, 60), None)
        self.assertIs(sizes_back([1] * 5000, 1), None)
        self.assertEqual(sizes_back([1] * 60, 60), sorted([1, 1] + list(range(2, 60))))
        self.assertIs(sizes_back([1] * 61, 60), None)
        self.assertIs(sizes_back(turned_counts(no_holders(70)), 60), None)

    def test_wrong_values(self):
        for counts in (None, (), [], (1,), "1", [True], [1, None], [1, 2.0], [[1]], {0: 1}, [1, "1"]):
            for many in (1, 60, 0, None):
                with self.assertRaises(InvalidCounts):
                    sizes_back(counts, many)
        for many in (None, True, False, 0, -1, 61, 300, 10 ** 99, -10 ** 99, "5", 5.0, [5], (5,)):
            for counts in ([1, 2, 3, 3, 3, 2, 1], [1], [0], [1, 0]):
                with self.assertRaises(InvalidNumber):
                    sizes_back(counts, many)
        self.assertIs(sizes_back([1, 2, 3, 3, 3, 2, 1], 60) is not None, True)


class Plain(unittest.TestCase):
    def test_example(self):
        self.assertEqual(plain((1, None, 1, 2, None)), (None, None, 1, 1, 3))

    def test_the_least_of_all_renamed_ones(self):
        for forest in SMALL + [one for one in LARGER if len(one) < 7]:
            many = len(forest)
            straight = [one for one in {renamed(forest, names) for names in permutations(range(many))}
                        if walk_by_calls(one) == list(range(many))]
            self.assertEqual(plain(forest), min(straight, key=with_minus_ones))

    def test_one_for_each_shape(self):
        for many in range(1, 9):
            by_hand = {shape_code(forest): forest for forest in shapes_by_hand(many)}
            for forest in walked_forests(many):
                self.assertEqual(plain(forest), by_hand[shape_code(forest)])
        self.assertEqual([len(shapes_by_hand(many)) for many in range(1, 9)], [1, 2, 4, 9, 20, 48, 115, 286])

    def test_large_forests(self):
        for seed, forest in enumerate(LARGE):
            found = plain(forest)
            self.assertTrue(is_forest(found))
            self.assertEqual(walk(found), list(range(len(forest))))
            self.assertEqual(shape_code(found), shape_code(forest))
            names = Random(seed).sample(range(len(forest)), len(forest))
            self.assertEqual([plain(found), plain(renamed(forest, names))], [found, found])
            self.check_least(found)

    def check_least(self, forest):
        """Two that have one holder, changed with all that is below them, make no lesser one."""
        size_list = sizes_by_hand(forest)
        for thing, size in enumerate(size_list):
            behind = thing + size
            if behind < len(forest) and forest[behind] == forest[thing]:
                last = behind + size_list[behind]
                order = [*range(thing), *range(behind, last), *range(thing, behind), *range(last, len(forest))]
                changed = renamed(forest, [order.index(one) for one in range(len(forest))])
                self.assertEqual(walk_by_calls(changed), list(range(len(forest))))
                self.assertGreaterEqual(with_minus_ones(changed), with_minus_ones(forest))

    def test_special_ones(self):
        self.assertEqual(plain(ONE_THING), ONE_THING)
        for many in (2, 30, 60):
            self.assertEqual(plain(row(many)), row(many))
            self.assertEqual(plain(tuple(range(1, many)) + (None,)), row(many))
            self.assertEqual(plain(one_above_all(many)), one_above_all(many))
            self.assertEqual(plain((many - 1,) * (many - 1) + (None,)), one_above_all(many))
            self.assertEqual(plain(no_holders(many)), no_holders(many))
        # The shorter one first, also where the longer one begins like it.
        self.assertEqual(plain((None, 0, 1, None, 3)), (None, 0, None, 2, 3))
        self.assertEqual(plain((None, 0, 1, 1, None, 4)), (None, 0, None, 2, 3, 3))
        self.assertEqual(plain((None, 0, 1, 0, 3, 4, 0)), (None, 0, 0, 2, 0, 4, 5))

    def test_deeper_than_calls_can_nest(self):
        self.assertEqual(plain(tuple(range(1, 1200)) + (None,)), row(1200))

    def test_wrong_forests(self):
        for value in (None, (), (0,), list(EXAMPLE), (None, True)):
            with self.assertRaises(InvalidForest):
                plain(value)


class Shapes(unittest.TestCase):
    def check(self, size_list, there):
        self.assertEqual(shapes_with(size_list), there)
        self.assertEqual(count_shapes(size_list), len(there))
        self.assertEqual(forest_with(size_list), there[0] if there else None)

    def test_example(self):
        self.check([1, 1, 1, 2, 4], [(None, None, 1, 1, 3)])

    def test_all_sizes_of_few_things(self):
        for many in range(1, 7):
            shapes = shapes_by_hand(many)
            for size_list in combinations_with_replacement(range(1, many + 1), many):
                there = [one for one in shapes if sorted(sizes_by_hand(one)) == list(size_list)]
                self.check(list(size_list), there)

    def test_sizes_of_nine_things(self):
        by_sizes = {}
        for forest in shapes_by_hand(9):
            by_sizes.setdefault(tuple(sorted(sizes_by_hand(forest))), []).append(forest)
        self.assertEqual(sum(len(there) for there in by_sizes.values()), 719)
        self.assertGreater(max(len(there) for there in by_sizes.values()), 3)
        for size_list, there in by_sizes.items():
            self.check(list(size_list), there)
            self.check(Random(7).sample(size_list, 9), there)

    def test_in_ascending_order(self):
        for many in range(1, 10):
            for forest in shapes_by_hand(many)[::5]:
                found = shapes_with(sizes(forest))
                self.assertEqual(found, sorted(found, key=with_minus_ones))
                self.assertIn(forest, found)
                self.assertTrue(all(plain(one) == one for one in found))

    def test_sizes_in_any_order(self):
        there = shapes_with([1, 1, 1, 1, 2, 3])
        self.assertEqual(there, [(None, None, None, None, 3, 4), (None, None, 1, None, 3, 3)])
        for size_list in permutations([1, 1, 1, 1, 2, 3]):
            self.assertEqual(shapes_with(list(size_list)), there)

    def test_sizes_of_no_forest(self):
        for size_list in ([2, 2], [2, 1, 2], [1, 2, 2, 3], [3, 3, 3], [1, 3], [1, 1, 3, 3], [4, 1, 1, 2, 2], [2],
                          [9] * 9, [1, 3, 5, 7, 9, 9, 9, 9, 9], [2] * 9):
            if max(size_list) <= len(size_list):
                self.check(size_list, [])

    def test_special_ones(self):
        self.check([1], [ONE_THING])
        for many in (2, 9, 12):
            self.check([1] * many, [no_holders(many)])
            self.check(list(range(1, many + 1)), [row(many)])
            self.check([many] + [1] * (many - 1), [one_above_all(many)])

    def test_as_often(self):
        # One 2 more or less.
        self.check([1, 1, 2], [(None, None, 1)])
        self.check([1, 1, 2, 2], [(None, 0, None, 2)])
        self.check([1, 1, 1, 2], [(None, None, None, 2)])
        self.check([1, 1, 1, 3], [(None, None, 1, 1)])

    def test_wrong_values(self):
        for function in (shapes_with, count_shapes, forest_with):
            for value in (None, True, 0, 3, "1", "", (), (1,), [], [0], [2], [1, 0], [1, 3], [1, -1], [True],
                          [1, False], [1, None], [1, "1"], [1, 1.0], [[1]], {1: 1}, {1}, [1, 1, 4],
                          [10 ** 99], [-10 ** 99]):
                with self.assertRaises(InvalidSizes):
                    function(value)
            function(sizes=[1, 2])


if __name__ == "__main__":
    unittest.main()
