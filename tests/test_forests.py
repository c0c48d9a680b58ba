"""Forests: points [4], [7] and [11], against what the tests find out themselves."""

import unittest

from counting import (EXAMPLE, LARGER, SMALL, all_sequences, all_tuples, comes_out, is_above, mixed_forest,
                      no_holders, one_above_all, row, scattered, walk_by_calls)
from heldbehind.forests import above, below, depths, firsts, held_by, is_forest, sizes, walk

LARGE = [make(many) for make in (row, one_above_all, no_holders, mixed_forest) for many in (30, 60)]
LARGE += [scattered(mixed_forest(60), 7), scattered(row(60), 31), scattered(one_above_all(59), 17)]


class IsForest(unittest.TestCase):
    def test_all_small_tuples(self):
        for many in range(1, 5):
            for holders in all_tuples(many):
                self.assertIs(is_forest(holders), comes_out(holders), holders)

    def test_numbers_of_small_forests(self):
        # There are (n + 1) ** (n - 1) forests with n things.
        self.assertEqual([len([t for t in all_tuples(n) if is_forest(t)]) for n in (1, 2, 3, 4)], [1, 3, 16, 125])

    def test_large_forests(self):
        for forest in LARGE:
            self.assertIs(is_forest(forest), True)
            self.assertIs(is_forest(list(forest)), False)
            self.assertIs(is_forest(forest + (len(forest),)), False)
            self.assertIs(is_forest(forest + (len(forest) + 1, len(forest))), False)
            self.assertIs(is_forest(forest + (len(forest) - 1,)), True)

    def test_rings(self):
        for holders in [(0,), (1, 0), (None, 1), (None, 2, 1), (1, 2, 0), (None, 2, 3, 1, 3), (None, 0, 2)]:
            self.assertIs(is_forest(holders), False, holders)
        self.assertIs(is_forest(tuple(range(1, 60)) + (0,)), False)
        self.assertIs(is_forest(tuple(range(1, 60)) + (None,)), True)

    def test_any_other_value(self):
        for value in [None, True, False, 0, 1, -1, 10 ** 100, 1.5, "", "-", "None", b"", b"\x00", [], [None],
                      {}, {0: None}, set(), {None}, frozenset([None]), range(3), object(), tuple, is_forest, (),
                      ((),), ((None,),), ([],), ("",), ("0",), ("-", "0"), (None, "0"), (None, 0.0), (None, b"0"),
                      (None, True), (None, False), (None, None, True), (None, -1), (None, 2), (None, -2),
                      (None, 10 ** 100), (None, -10 ** 100), (None, [0]), (None, (0,)), (None, {}), (None, object())]:
            self.assertIs(is_forest(value), False, value)

    def test_by_name(self):
        self.assertIs(is_forest(value=(None, 0)), True)
        self.assertIs(is_forest(value=(1, None, 1)), True)
        self.assertIs(is_forest(value=(0, None)), False)

    def test_longer_ones_than_calls_can_nest(self):
        self.assertIs(is_forest(row(5000)), True)
        self.assertIs(is_forest((4999,) + tuple(range(4999))), False)


class Things(unittest.TestCase):
    def test_examples(self):
        self.assertEqual([sizes(EXAMPLE), walk(EXAMPLE)], [[4, 2, 1, 1, 1], [0, 1, 3, 2, 4]])
        self.assertEqual(depths(EXAMPLE), [0, 1, 1, 2, 0])
        self.assertEqual([above(EXAMPLE, 3), below(EXAMPLE, 0)], [[1, 0], [1, 2, 3]])
        self.assertEqual([firsts(EXAMPLE), held_by(EXAMPLE, 0)], [[0, 4], [1, 2]])

    def test_one_thing(self):
        self.assertEqual([sizes((None,)), depths((None,)), firsts((None,)), walk((None,))], [[1], [0], [0], [0]])
        self.assertEqual([above((None,), 0), below((None,), 0), held_by((None,), 0)], [[], [], []])

    def test_indexes_in_any_order(self):
        forest = (5, 5, 0, None, 3, None, 0)
        self.assertEqual(walk(forest), [3, 4, 5, 0, 2, 6, 1])
        self.assertEqual(sizes(forest), [3, 1, 1, 2, 1, 5, 1])
        self.assertEqual(depths(forest), [1, 1, 2, 0, 1, 0, 2])
        self.assertEqual([above(forest, 2), below(forest, 5), held_by(forest, 5)], [[0, 5], [0, 1, 2, 6], [0, 1]])

    def test_by_the_definitions(self):
        for forest in SMALL + LARGER + LARGE:
            things = range(len(forest))
            rows = {v: [w for w in things if is_above(forest, v, w)] for v in things}
            tops = {v: [w for w in things if v in rows[w]] for v in things}
            self.assertEqual(sizes(forest), [len(rows[v]) + 1 for v in things])
            self.assertEqual(depths(forest), [len(tops[v]) for v in things])
            self.assertEqual(firsts(forest), [v for v in things if not tops[v]])
            for v in things:
                self.assertEqual(below(forest, v), rows[v])
                self.assertEqual(above(forest, v), sorted(tops[v], key=lambda w: -len(tops[w])))
                self.assertEqual(held_by(forest, v), [w for w in things if above(forest, w)[:1] == [v]])

    def test_walk_by_calls(self):
        for forest in SMALL + LARGER + LARGE:
            self.assertEqual(walk(forest), walk_by_calls(forest))

    def test_walk_is_a_sequence(self):
        for forest in SMALL + LARGER:
            self.assertIn(walk(forest), all_sequences(forest))

    def test_many_more_things(self):
        for forest in (row(300), one_above_all(300), no_holders(300), mixed_forest(300)):
            self.assertEqual(sorted(walk(forest)), list(range(300)))
            self.assertEqual(sum(sizes(forest)), sum(depths(forest)) + 300)
            self.assertEqual(len(above(forest, 299)), depths(forest)[299])
            self.assertEqual(len(below(forest, 0)) + 1, sizes(forest)[0])


if __name__ == "__main__":
    unittest.main()
