"""Lists that are worked off in order, or up to a bound: point [27]."""

import unittest
from random import Random

from counting import (EXAMPLE, LARGER, SIXTY, SMALL, all_sequences, mixed_forest, no_holders, numbers_in,
                      one_above_all, random_forest, row, scattered, walk_by_calls)
from heldbehind.errors import (DoneAlready, InvalidForest, InvalidNumber, InvalidThing, NotReady, NothingToUndo,
                               TooMany, Turned)
from heldbehind.kinds import BoundedList, OrderedBoundedList, OrderedList
from heldbehind.live import LiveList
from working import CLASSES, shown
from wrong import NO_FOREST, NO_INDEX, Cases

LARGE = SIXTY + [random_forest(many, many) for many in (41, 57, 59, 60)]
# The walk is 3, 4, 5, 0, 2, 6, 1.
FOREST = (5, 5, 0, None, 3, None, 0)
ORDERED = (OrderedList, OrderedBoundedList)
BOUNDED = (BoundedList, OrderedBoundedList)


class Kinds(Cases):
    def test_bases(self):
        self.assertTrue(issubclass(OrderedList, LiveList) and issubclass(BoundedList, LiveList))
        self.assertTrue(issubclass(OrderedBoundedList, OrderedList) and issubclass(OrderedBoundedList, BoundedList))
        self.assertFalse(issubclass(OrderedList, BoundedList) or issubclass(BoundedList, OrderedList))
        for kind in CLASSES:
            self.assertIsInstance(kind(EXAMPLE), LiveList)

    def test_told_words(self):
        for kind, more in [(LiveList, []), (OrderedList, ["ordered"]), (BoundedList, ["most 30"]),
                           (OrderedBoundedList, ["ordered", "most 30"])]:
            live = kind(EXAMPLE)
            self.assertEqual(live.told_words(), ["done 0", "ready 2"] + more)
            live.skip_to(1)
            self.assertEqual(live.told_words(), ["done 2", "ready 3"] + more)
            live.undo()
            self.assertEqual(live.told_words(), ["done 0", "ready 2"] + more)
        for most in (0, 1, 5, 30, 60, 10 ** 99):
            self.assertEqual(BoundedList(EXAMPLE, most).told_words(), ["done 0", "ready 2", f"most {most}"])
            self.assertEqual(OrderedBoundedList(EXAMPLE, most).told_words(),
                             ["done 0", "ready 2", "ordered", f"most {most}"])
        self.assertIn("told_words", vars(OrderedList))
        self.assertIn("told_words", vars(BoundedList))

    def test_lists_of_words_are_new(self):
        for kind in CLASSES:
            live = kind(EXAMPLE)
            first, second = live.told_words(), live.told_words()
            first.pop()
            self.assertEqual([second, live.told_words()], [live.told_words()] * 2)
            self.assertEqual(len(second), len(first) + 1)

    def test_the_default_bound(self):
        for kind in BOUNDED:
            for live in (kind(no_holders(60)), kind.read("- " * 59 + "-"), kind(no_holders(3)).read("- " * 59 + "-")):
                self.assertIs(type(live), kind)
                for thing in range(30):
                    live.do(thing)
                self.assert_due(live.do, ["thing"], [30], TooMany, count=31)
                self.assert_due(live.skip_to, ["thing"], [59], TooMany, count=31)
                self.assertEqual([len(live.done), live.told_words()[-1]], [30, "most 30"])
            # Also read by an object with another bound.
            self.assertEqual(kind(EXAMPLE, 2).read("-").told_words()[-1], "most 30")

    def test_constructors(self):
        for kind in BOUNDED:
            for most in (0, 1, 30, 10 ** 99):
                for live in (kind(EXAMPLE, most), kind(EXAMPLE, most=most), kind(most=most, forest=EXAMPLE)):
                    self.assertEqual(live.told_words()[-1], f"most {most}")
            names = ["forest", "most"]
            # A bound may be greater than any index.
            for most in [value for value in NO_INDEX if value != 10 ** 99] + [-2, -10 ** 50]:
                self.assert_due(kind, names, [EXAMPLE, most], InvalidNumber)
                self.assert_due(kind, names, [list(EXAMPLE), most], InvalidForest)
            for value in NO_FOREST:
                self.assert_due(kind, names, [value, 3], InvalidForest)
                self.assert_due(kind, names, [value, -1], InvalidForest)
        for kind in (LiveList, OrderedList):
            with self.assertRaises(TypeError):
                kind(EXAMPLE, 30)


class Ordered(Cases):
    def test_numbers_only_rise(self):
        """Of all sequences of a forest just its walk can be done, and of the beginnings those that rise."""
        for forest in SMALL[::4] + [one for one in LARGER if len(all_sequences(one)) < 300]:
            for order in all_sequences(forest):
                numbers = numbers_in(forest, order)
                rising = [at for at in range(len(order)) if numbers[at] == max(numbers[:at + 1])]
                for kind in ORDERED:
                    live = kind(forest)
                    turned = [at for at in range(len(order)) if at not in rising]
                    for thing in order[:turned[0] if turned else len(order)]:
                        live.do(thing)
                    if turned:
                        thing = order[turned[0]]
                        before = shown(live)
                        self.assert_due(live.do, ["thing"], [thing], Turned, thing=thing)
                        with self.assertRaises(Turned):
                            live.try_changes(("do", thing))
                        self.assertEqual(shown(live), before)
                    else:
                        self.assertEqual(list(live.done), walk_by_calls(forest))

    def test_the_numbers_are_those_of_the_walk(self):
        for kind in ORDERED:
            live = kind(FOREST)
            for thing in (3, 5, 0, 6):
                live.do(thing)
            # The indexes do not count: in the walk 4 and 2 are ahead of 6, and 1 is behind it.
            for thing in (4, 2):
                self.assert_due(live.do, ["thing"], [thing], Turned, thing=thing)
                self.assert_due(live.skip_to, ["thing"], [thing], Turned, thing=thing)
            self.assertEqual([live.do(1), live.done], [2, (3, 5, 0, 6, 1)])
            self.assertEqual([live.undo(), live.undo(), live.do(2), live.ready], ["do", "do", 6, (1, 4, 6)])

    def test_skip_to_turned_things(self):
        for kind in ORDERED:
            # The first one that it would do is turned, whatever is behind it.
            live = kind((None, 0, 1, 2, None))
            live.do(4)
            for thing in range(4):
                self.assert_due(live.skip_to, ["thing"], [thing], Turned, thing=0)
            self.assertEqual([live.done, len(live)], [(4,), 1])
            # Some are done already, and those that are left are turned.
            live = kind((None, 0, 1, 2, None))
            live.skip_to(1)
            live.do(4)
            for thing in (2, 3):
                self.assert_due(live.skip_to, ["thing"], [thing], Turned, thing=2)
                with self.assertRaises(Turned) as caught:
                    live.try_changes(("skip", thing))
                self.assertEqual(caught.exception.thing, 2)
            self.assertEqual([live.undo(), live.skip_to(3), live.done], ["do", 2, (0, 1, 2, 3)])

    def test_behind_the_errors_of_each_call(self):
        for kind in ORDERED:
            live = kind((None, 0, 1, None, 3))
            live.do(3)
            before = shown(live)
            for thing, error, attributes in [(0, Turned, {"thing": 0}), (1, NotReady, {"thing": 0}),
                                             (2, NotReady, {"thing": 1}), (3, DoneAlready, {}),
                                             (5, InvalidThing, {}), (True, InvalidThing, {})]:
                self.assert_due(live.do, ["thing"], [thing], error, **attributes)
            for thing, error, attributes in [(2, Turned, {"thing": 0}), (3, DoneAlready, {}), (-1, InvalidThing, {})]:
                self.assert_due(live.skip_to, ["thing"], [thing], error, **attributes)
            self.assertEqual([shown(live), live.do(4)], [before, 1])

    def test_tried_changes(self):
        for kind in ORDERED:
            live = kind(EXAMPLE)
            self.assertEqual(live.try_changes(("skip", 3), ("do", 2), ("do", 4)), [3, 1, 1])
            for changes, thing in [([("do", 4), ("do", 0)], 0), ([("do", 0), ("do", 2), ("skip", 3)], 1),
                                   ([("skip", 2), ("do", 1), None], 1), ([("do", 4), ("skip", 3)], 0)]:
                with self.assertRaises(Turned) as caught:
                    live.try_changes(*changes)
                self.assertEqual(caught.exception.thing, thing)
                self.assert_of_its_own_class(caught.exception, Turned)
                self.assertEqual([live.done, len(live)], [(), 0])

    def test_what_is_told_counts_all_sequences(self):
        # The order bars calls; what is ready and left are those of the forest.
        live = OrderedList(EXAMPLE)
        self.assertEqual([live.do(4), live.ready, live.left, live.told_words()],
                         [3, (0,), 3, ["done 1", "ready 1", "ordered"]])
        self.assert_due(live.do, ["thing"], [0], Turned, thing=0)

    def test_large_forests(self):
        for forest in LARGE + [scattered(mixed_forest(60), 13)]:
            order = walk_by_calls(forest)
            live = OrderedList(forest)
            for thing in order:
                live.do(thing)
            self.assertEqual([list(live.done), live.left], [order, 1])
            for seed in range(4):
                self.check_drawn(OrderedList(forest), forest, order, Random(seed))

    def check_drawn(self, live, forest, order, draw):
        """Calls in any order: just those with rising numbers do something."""
        for _ in range(40):
            thing = draw.randrange(len(forest))
            way, at = [thing], forest[thing]
            while at is not None:
                way, at = [at] + way, forest[at]
            due = [one for one in way if one not in live.done]
            greatest = max([order.index(one) for one in live.done], default=-1)
            if thing in live.done:
                self.assert_due(live.skip_to, ["thing"], [thing], DoneAlready)
            elif order.index(due[0]) < greatest:
                self.assert_due(live.skip_to, ["thing"], [thing], Turned, thing=due[0])
            else:
                self.assertEqual(live.skip_to(thing), len(due))
            self.assertEqual(list(live.done), sorted(live.done, key=order.index))


class Bounded(Cases):
    def test_the_bound_0(self):
        for kind in BOUNDED:
            live = kind(EXAMPLE, 0)
            before = shown(live)
            for thing, many in [(0, 1), (4, 1)]:
                self.assert_due(live.do, ["thing"], [thing], TooMany, count=many)
            for thing, many in enumerate([1, 2, 2, 3, 1]):
                self.assert_due(live.skip_to, ["thing"], [thing], TooMany, count=many)
                with self.assertRaises(TooMany) as caught:
                    live.try_changes(("skip", thing))
                self.assertEqual(caught.exception.count, many)
            self.assertEqual([shown(live), live.try_changes()], [before, []])
            self.assert_due(live.undo, [], [], NothingToUndo)

    def test_all_bounds(self):
        for kind in BOUNDED:
            for most in range(7):
                live = kind(row(6), most)
                for thing in range(most):
                    self.assertEqual(live.do(thing), 1)
                if most < 6:
                    self.assert_due(live.do, ["thing"], [most], TooMany, count=most + 1)
                    self.assert_due(live.skip_to, ["thing"], [5], TooMany, count=6)
                self.assertEqual([len(live.done), len(live)], [most, most])
                other = kind(row(6), most)
                if most < 6:
                    self.assert_due(other.skip_to, ["thing"], [most], TooMany, count=most + 1)
                if most > 0:
                    self.assertEqual([other.skip_to(most - 1), len(other)], [most, 1])
                    other.undo()
                    self.assertEqual(other.do(0), 1)

    def test_behind_what_is_taken_back(self):
        for kind in BOUNDED:
            live = kind(EXAMPLE, 3)
            live.skip_to(3)
            self.assert_due(live.do, ["thing"], [4], TooMany, count=4)
            self.assertEqual([live.undo(), live.skip_to(1), live.do(4), live.done], ["skip", 2, 2, (0, 1, 4)])
            self.assert_due(live.skip_to, ["thing"], [4], DoneAlready)
            self.assertEqual([live.undo(), live.done], ["do", (0, 1)])

    def test_behind_the_errors_of_each_call(self):
        for kind in BOUNDED:
            live = kind(EXAMPLE, 1)
            live.do(0)
            before = shown(live)
            for thing, error, attributes in [(1, TooMany, {"count": 2}), (3, NotReady, {"thing": 1}),
                                             (0, DoneAlready, {}), (5, InvalidThing, {}), (None, InvalidThing, {})]:
                self.assert_due(live.do, ["thing"], [thing], error, **attributes)
            for thing, error, attributes in [(3, TooMany, {"count": 3}), (0, DoneAlready, {}), (5, InvalidThing, {})]:
                self.assert_due(live.skip_to, ["thing"], [thing], error, **attributes)
            self.assertEqual(shown(live), before)

    def test_tried_changes(self):
        for kind in BOUNDED:
            live = kind(EXAMPLE, 2)
            self.assertEqual(live.try_changes(("do", 0), ("do", 1)), [12, 6])
            for changes, many in [([("do", 0), ("do", 1), ("do", 3)], 3), ([("skip", 3)], 3),
                                  ([("do", 0), ("skip", 3), None], 3), ([("skip", 1), ("skip", 4), ("do", 9)], 3)]:
                with self.assertRaises(TooMany) as caught:
                    live.try_changes(*changes)
                self.assertEqual(caught.exception.count, many)
                self.assert_of_its_own_class(caught.exception, TooMany)
                self.assertEqual([live.done, len(live)], [(), 0])

    def test_turned_comes_first(self):
        live = OrderedBoundedList((None, 0, 1, 2, None), 1)
        live.do(4)
        self.assert_due(live.do, ["thing"], [0], Turned, thing=0)
        self.assert_due(live.skip_to, ["thing"], [3], Turned, thing=0)
        self.assert_due(live.do, ["thing"], [1], NotReady, thing=0)
        self.assert_due(live.do, ["thing"], [4], DoneAlready)
        with self.assertRaises(Turned):
            live.try_changes(("skip", 3))
        live.undo()
        live.do(0)
        # In order, but too many.
        self.assert_due(live.do, ["thing"], [4], TooMany, count=2)
        self.assert_due(live.skip_to, ["thing"], [3], TooMany, count=4)
        # The same calls where only one of both bars them.
        ordered, bounded = OrderedList((None, 0, 1, 2, None)), BoundedList((None, 0, 1, 2, None), 1)
        ordered.do(4)
        bounded.do(4)
        self.assert_due(ordered.do, ["thing"], [0], Turned, thing=0)
        self.assert_due(bounded.do, ["thing"], [0], TooMany, count=2)

    def test_large_forests(self):
        for forest in LARGE:
            order = walk_by_calls(forest)
            for kind in BOUNDED:
                for most in (0, 1, 29, len(forest) - 1, len(forest)):
                    live = kind(forest, most)
                    for thing in order[:most]:
                        live.do(thing)
                    self.assertEqual(list(live.done), order[:most])
                    if most < len(forest):
                        self.assert_due(live.do, ["thing"], [order[most]], TooMany, count=most + 1)
                    self.assertEqual([live.undo() for _ in range(most)], ["do"] * most)
        self.assert_due(BoundedList(row(60)).skip_to, ["thing"], [59], TooMany, count=60)
        self.assertEqual(BoundedList(row(60), 60).skip_to(59), 60)
        self.assertEqual(BoundedList(one_above_all(60), 2).skip_to(59), 2)


if __name__ == "__main__":
    unittest.main()
