"""Forests and shares as objects: points [24] and [25]."""

import unittest
from fractions import Fraction as Exact
from itertools import product
from random import Random

from counting import (EXAMPLE, LARGER, ONE_THING, SIXTY, SMALL, all_sequences, drawn_indexes, mixed_forest, no_holders,
                      pair, random_forest, row)
from heldbehind.changes import beside
from heldbehind.errors import InvalidForest, InvalidIndex, InvalidNumber, NotAForest, NotAFraction
from heldbehind.live import LiveList
from heldbehind.objects import Forest, Fraction
from heldbehind.sequences import count_sequences, nth_sequence
from heldbehind.shares import place_shares
from wrong import NO_FOREST, NO_INDEX, NO_SEQUENCE, Cases

LARGE = SIXTY + [random_forest(many, many) for many in (41, 57, 59, 60)]
OTHER_VALUES = [None, True, 0, 1, 1.0, "", "- 0", b"-", (), (None,), (1, 2), [], [None], {}, {None}, object(), Forest,
                Fraction, LiveList(EXAMPLE), EXAMPLE, NotImplemented, Exact(1, 2)]


class Forests(Cases):
    def test_small_forests(self):
        for forest in SMALL[::3] + LARGER:
            f = Forest(forest)
            there = all_sequences(forest)
            self.assertEqual([f.holders, f.number, len(f)], [forest, len(there), len(forest)])
            self.assertEqual([f(index) for index in range(len(there))], there)
            self.assertTrue(all(one in f for one in there))
            for one in there[:5]:
                self.assertIs(one[::-1] in f, one[::-1] in there)
                self.assertIs(tuple(one) in f, False)

    def test_large_forests(self):
        for seed, forest in enumerate(LARGE):
            f = Forest(forest)
            self.assertEqual([f.holders, f.number, len(f)], [forest, count_sequences(forest), len(forest)])
            for index in drawn_indexes(f.number, seed):
                self.assertEqual(f(index), nth_sequence(forest, index))
                self.assertIs(f(index) in f, True)
            for index in (-1, f.number):
                self.assert_due(f, ["index"], [index], InvalidIndex)

    def test_one_thing(self):
        f = Forest(ONE_THING)
        self.assertEqual([f.holders, f.number, len(f), f(0), f(index=0)], [ONE_THING, 1, 1, [0], [0]])
        self.assertEqual([[0] in f, [] in f, [1] in f, [False] in f, (0,) in f, 0 in f], [True] + [False] * 5)

    def test_by_name(self):
        f = Forest(forest=EXAMPLE)
        self.assertEqual([f.holders, f(index=10)], [EXAMPLE, [0, 4, 1, 3, 2]])

    def test_wrong_forests(self):
        for value in NO_FOREST:
            self.assert_due(Forest, ["forest"], [value], InvalidForest)
        with self.assertRaises(InvalidForest):
            Forest(Forest(EXAMPLE))

    def test_wrong_indexes(self):
        f = Forest(EXAMPLE)
        for value in NO_INDEX + [15, 16]:
            self.assert_due(f, ["index"], [value], InvalidIndex)
        self.assertEqual([f(0), f(14)], [[0, 1, 2, 3, 4], [4, 0, 2, 1, 3]])

    def test_any_value_is_in_it_or_not(self):
        f = Forest(EXAMPLE)
        for value in NO_SEQUENCE + OTHER_VALUES + [f, Fraction(1, 2)]:
            self.assertIs(value in f, False)
            self.assertIs(value not in f, True)
        self.assertIs([0, 4, 1, 3, 2] in f, True)
        self.assertIs([0, 4, 1, 3, 2] not in f, False)

    def test_the_forest_of_both(self):
        for forest in SMALL[::9] + LARGER[:5] + LARGE[:4]:
            for other in SMALL[::13] + LARGER[:3] + LARGE[4:6]:
                f, g = Forest(forest), Forest(other)
                both = f + g
                self.assertIs(type(both), Forest)
                self.assertEqual(both.holders, beside(forest, other))
                self.assertEqual([f.holders, g.holders], [forest, other])
                self.assertEqual(len(both), len(f) + len(g))

    def test_sums_of_more(self):
        f = Forest((None, 0)) + Forest(ONE_THING) + Forest((1, None))
        self.assertEqual([f.holders, f.number, len(f)], [(None, 0, None, 4, None), 30, 5])
        g = f
        g = g + g
        self.assertEqual([len(f), len(g)], [5, 10])
        f += Forest(ONE_THING)
        self.assertEqual([len(f), len(g)], [6, 10])
        many = Forest(mixed_forest(60))
        many = many + many + many + many
        self.assertEqual([len(many), len(many(many.number - 1))], [240, 240])

    def test_other_right_operands(self):
        f = Forest(EXAMPLE)
        for value in OTHER_VALUES + [Fraction(1, 2)]:
            with self.assertRaises(NotAForest) as caught:
                f + value
            self.assert_of_its_own_class(caught.exception, NotAForest)
            with self.assertRaises(NotAForest):
                f += value
        self.assertEqual(f.holders, EXAMPLE)

    def test_equal_ones(self):
        some = SMALL[::7] + LARGER + LARGE
        for forest, other in product(some, repeat=2):
            self.assertIs(Forest(forest) == Forest(other), forest == other)
            self.assertIs(Forest(forest) != Forest(other), forest != other)
        f = Forest(EXAMPLE)
        self.assertIs(f == f, True)
        # Alike forests, and those of one shape, are not equal.
        self.assertIs(f == Forest((None, 0, 0, 2, None)), False)
        self.assertIs(Forest((None, 0)) + Forest(ONE_THING) == Forest((None, 0, None)), True)

    def test_other_values_are_unlike(self):
        f = Forest(EXAMPLE)
        for value in OTHER_VALUES + [Fraction(1, 2), EXAMPLE, list(EXAMPLE), "- 0 0 1 -"]:
            self.assertIs(f == value, False)
            self.assertIs(f != value, True)
            self.assertIs(value == f, False)

    def test_it_never_changes(self):
        f = Forest(EXAMPLE)
        first = f(3)
        second = f(3)
        self.assertIsNot(first, second)
        first.reverse()
        self.assertEqual([second, f(3)], [nth_sequence(EXAMPLE, 3)] * 2)
        for name in ("holders", "number"):
            with self.assertRaises(AttributeError):
                setattr(f, name, 1)
        g = Forest(row(5))
        list(map(f, range(15)))
        [0] in f
        f + g
        self.assertEqual([f.holders, f.number, g.holders, g.number], [EXAMPLE, 15, row(5), 1])
        self.assertEqual(f, Forest(EXAMPLE))

    def test_as_a_function(self):
        self.assertEqual(list(map(Forest(no_holders(3)), range(6))), all_sequences(no_holders(3)))


class Fractions(Cases):
    def test_lowest_terms(self):
        for top, bottom in product(range(-13, 14), range(1, 13)):
            found = Fraction(top, bottom).pair
            self.assertEqual(found, pair(Exact(top, bottom)))
            self.assertEqual([type(found), type(found[0]), type(found[1])], [tuple, int, int])
        self.assertEqual([Fraction(0, 7).pair, Fraction(-4, 6).pair, Fraction(6, 3).pair], [(0, 1), (-2, 3), (2, 1)])

    def test_sums_and_products(self):
        some = [(top, bottom) for top in range(-4, 5) for bottom in (1, 2, 3, 4, 6)]
        for one, other in product(some, repeat=2):
            a, b = Fraction(*one), Fraction(*other)
            exact, other_exact = Exact(*one), Exact(*other)
            self.assertEqual((a + b).pair, pair(exact + other_exact))
            self.assertEqual((a * b).pair, pair(exact * other_exact))
            self.assertIs(a == b, exact == other_exact)
            self.assertIs(a != b, exact != other_exact)
            self.assertIs(type(a + b) is Fraction and type(a * b) is Fraction, True)
            self.assertEqual([a.pair, b.pair], [pair(exact), pair(other_exact)])

    def test_great_numbers(self):
        draw = Random(3)
        for _ in range(200):
            numbers = [draw.randrange(-10 ** 100, 10 ** 100), draw.randrange(1, 10 ** 100),
                       draw.randrange(-10 ** 100, 10 ** 100), draw.randrange(1, 10 ** 100)]
            a, b = Fraction(*numbers[:2]), Fraction(*numbers[2:])
            exact, other_exact = Exact(*numbers[:2]), Exact(*numbers[2:])
            self.assertEqual([a.pair, (a + b).pair], [pair(exact), pair(exact + other_exact)])
            self.assertEqual((a * b).pair, pair(exact * other_exact))
        self.assertEqual(Fraction(10 ** 99, 10 ** 98).pair, (10, 1))

    def test_shares(self):
        for forest in LARGER + LARGE[:4]:
            total = Fraction(0, 1)
            for share in place_shares(forest, 1):
                self.assertEqual(Fraction(*share).pair, share)
                total = total + Fraction(*share)
            self.assertEqual([total.pair, total == Fraction(1, 1)], [(1, 1), True])

    def test_zero(self):
        zero = Fraction(0, 5)
        self.assertEqual([zero.pair, (zero + zero).pair, (zero * Fraction(7, 3)).pair], [(0, 1)] * 3)
        self.assertEqual([(zero + Fraction(-2, 4)).pair, (Fraction(1, 2) + Fraction(-1, 2)).pair], [(-1, 2), (0, 1)])
        self.assertIs(zero == Fraction(0, 9), True)

    def test_by_name(self):
        self.assertEqual([Fraction(bottom=4, top=-2).pair, Fraction(3, bottom=9).pair], [(-1, 2), (1, 3)])

    def test_wrong_numbers(self):
        no_integers = [None, True, False, "", "1", b"1", 1.0, 0.5, [], [1], (), (1,), {}, {1}, object(), Exact(1, 2),
                       Fraction(1, 2)]
        for value in no_integers:
            for other in (1, -1, 0, None, value):
                self.assert_due(Fraction, ["top", "bottom"], [value, other], InvalidNumber)
                self.assert_due(Fraction, ["top", "bottom"], [other, value], InvalidNumber)
        for bottom in (0, -1, -7, -10 ** 99, False, True):
            for top in (0, 1, -1, 10 ** 99):
                self.assert_due(Fraction, ["top", "bottom"], [top, bottom], InvalidNumber)
        self.assertEqual([Fraction(0, 1).pair, Fraction(-10 ** 99, 1).pair], [(0, 1), (-10 ** 99, 1)])

    def test_other_right_operands(self):
        a = Fraction(1, 2)
        for value in OTHER_VALUES + [Forest(EXAMPLE), (1, 2)]:
            with self.assertRaises(NotAFraction) as caught:
                a + value
            self.assert_of_its_own_class(caught.exception, NotAFraction)
            with self.assertRaises(NotAFraction):
                a * value
            self.assertIs(a == value, False)
            self.assertIs(a != value, True)
        self.assertIs(Fraction(2, 1) == 2, False)
        self.assertIs(Fraction(1, 2) == (1, 2), False)
        self.assertEqual(a.pair, (1, 2))

    def test_it_never_changes(self):
        a, b = Fraction(1, 2), Fraction(1, 3)
        c = a
        c += b
        c *= b
        self.assertEqual([a.pair, b.pair, c.pair], [(1, 2), (1, 3), (5, 18)])
        with self.assertRaises(AttributeError):
            a.pair = (1, 3)


if __name__ == "__main__":
    unittest.main()
