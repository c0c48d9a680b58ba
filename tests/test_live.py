"""Lists that are worked off: point [26], and what [27] says of the same calls."""

import unittest
from random import Random

from counting import (EXAMPLE, LARGER, ONE_THING, SIXTY, SMALL, all_sequences, count_by_shuffling, is_above,
                      mixed_forest, no_holders, one_above_all, random_forest, random_sequence, row)
from heldbehind.errors import (DoneAlready, InvalidChange, InvalidForest, InvalidText, InvalidThing, NotReady,
                               NothingToUndo)
from heldbehind.forests import is_forest
from heldbehind.kinds import BoundedList
from heldbehind.live import LiveList
from heldbehind.sequences import is_sequence
from working import CLASSES, ByHand, made, outcome, shown, shown_by_hand
from wrong import NO_FOREST, NO_FOREST_TEXT, NO_INDEX, Cases

LARGE = SIXTY + [random_forest(many, many) for many in (41, 57, 59, 60)]
NO_CHANGE = [None, True, 0, 3, "", "do", "do 0", b"do", 1.0, (), ("do",), ("skip",), ("do", 0, 1), ("skip", 0, 0),
             (0, "do"), ["do", 0], ["skip", 0], {"do": 0}, {"do", "skip"}, ("undo", 0), ("undo",), ("DO", 0),
             ("Skip", 0), ("do ", 0), ("", 0), (None, 0), (True, 0), (0, 0), (b"do", 0), (("do",), 0),
             (["do"], 0), ("skip_to", 0), ("try", 0), (("do", 0),), [("do", 0)], object(), range(2), EXAMPLE, LiveList]


def rest_of(forest, done):
    """The forest of what is left."""
    rest = [thing for thing in range(len(forest)) if thing not in done]
    return tuple(rest.index(forest[thing]) if forest[thing] in rest else None for thing in rest)


class Live(Cases):
    def check_state(self, live, by_hand):
        self.assertEqual(shown(live), shown_by_hand(by_hand))

    def check_calls(self, live, by_hand):
        """Each call that there could be now, tried: it leaves no trace."""
        before = shown(live)
        changes = [(word, thing) for thing in range(-1, len(by_hand.forest) + 1) for word in ("do", "skip")]
        for change in changes:
            self.assertEqual(outcome(live.try_changes, change), outcome(by_hand.tried, [change]))
        self.assertEqual(shown(live), before)


class Small(Live):
    def test_example(self):
        live = LiveList(EXAMPLE)
        self.assertEqual([live.do(0), live.ready, live.skip_to(3), live.done, live.left],
                         [12, (1, 2, 4), 2, (0, 1, 3), 2])
        self.assertEqual(live.try_changes(("do", 2), ("do", 4)), [1, 1])
        self.assertEqual(live.told_words(), ["done 3", "ready 2"])

    def test_all_beginnings(self):
        for kind in CLASSES:
            for forest in [one for one in SMALL if len(one) < 4] + SMALL[20::9] + [EXAMPLE]:
                bounds = range(len(forest) + 1) if CLASSES[kind][1] else [None]
                for most in bounds if len(forest) < 4 else list(bounds)[-2:]:
                    by_hand = ByHand(forest, kind) if most is None else ByHand(forest, kind, most)
                    self.go_on(made(kind, forest, most), by_hand)

    def go_on(self, live, by_hand):
        """Do each thing that can be next, go on from there, and take it back."""
        self.check_state(live, by_hand)
        self.check_calls(live, by_hand)
        before = shown(live)
        for thing in by_hand.ready():
            found = outcome(by_hand.call, "do", thing)
            self.assertEqual(outcome(live.do, thing), found)
            if not isinstance(found, tuple):
                self.go_on(live, by_hand)
                self.assertEqual([live.undo(), by_hand.undo()], ["do", "do"])
            self.assertEqual(shown(live), before)

    def test_drawn_calls(self):
        for seed in range(120):
            draw = Random(seed)
            forest = draw.choice([one for one in LARGER if len(all_sequences(one)) < 700] + SMALL[-60:])
            kind = draw.choice(list(CLASSES))
            most = draw.choice([0, 2, 4, 5, 6, 7, 60]) if CLASSES[kind][1] else None
            live, by_hand = made(kind, forest, most), ByHand(forest, kind, 30 if most is None else most)
            for _ in range(25):
                self.draw_call(draw, live, by_hand)
                self.check_state(live, by_hand)
            self.take_all_back(live, by_hand)

    def draw_call(self, draw, live, by_hand):
        word = draw.choice(["do", "do", "do", "skip", "undo", "try"])
        things = list(range(len(by_hand.forest))) + [len(by_hand.forest), True]
        if word == "undo":
            self.assertEqual(outcome(live.undo), outcome(by_hand.undo))
        elif word == "try":
            changes = [(draw.choice(["do", "skip"]), draw.choice(things)) for _ in range(draw.randrange(5))]
            self.assertEqual(outcome(live.try_changes, *changes), outcome(by_hand.tried, changes))
        else:
            thing = draw.choice((by_hand.ready() if draw.random() < 0.5 else []) or things)
            call = live.do if word == "do" else live.skip_to
            self.assertEqual(outcome(call, thing), outcome(by_hand.call, word, thing))

    def take_all_back(self, live, by_hand):
        while by_hand.calls:
            self.assertEqual(live.undo(), by_hand.undo())
            self.check_state(live, by_hand)
        with self.assertRaises(NothingToUndo):
            live.undo()
        self.check_state(live, by_hand)

    def test_one_thing(self):
        for kind in CLASSES:
            live = kind(ONE_THING)
            self.assertEqual([live.done, live.ready, live.left, len(live)], [(), (0,), 1, 0])
            self.assertEqual([live.try_changes(("do", 0)), live.try_changes(("skip", 0))], [[1], [1]])
            self.assertEqual([live.do(0), live.done, live.ready, live.left, len(live)], [1, (0,), (), 1, 1])
            self.assertEqual([live.undo(), live.skip_to(0), live.undo(), live.ready], ["do", 1, "skip", (0,)])

    def test_nothing_and_everything_done(self):
        for forest in SMALL[::5] + LARGER:
            live = LiveList(forest)
            firsts = tuple(thing for thing, holder in enumerate(forest) if holder is None)
            self.assertEqual([live.done, live.ready, len(live)], [(), firsts, 0])
            self.assertEqual(live.left, len(all_sequences(forest)))
            self.assertEqual(live.told_words(), ["done 0", f"ready {len(firsts)}"])
            last = all_sequences(forest)[-1]
            for thing in last:
                live.do(thing)
            self.assertEqual([live.done, live.ready, live.left, len(live)], [tuple(last), (), 1, len(last)])
            self.assertEqual(live.told_words(), [f"done {len(last)}", "ready 0"])
            for thing in last:
                for call in (live.do, live.skip_to):
                    self.assert_due(call, ["thing"], [thing], DoneAlready)
            self.assertEqual(live.try_changes(), [])


class Calls(Live):
    def test_skip_to(self):
        # 5 holds 0, 0 holds 6 and 2, 6 holds 3; 1 holds 4.
        live = LiveList((5, None, 0, 6, 1, None, 0))
        self.assertEqual([live.skip_to(3), live.done], [4, (5, 0, 6, 3)])
        self.assertEqual([live.skip_to(2), live.done], [1, (5, 0, 6, 3, 2)])
        self.assertEqual([len(live), live.undo(), live.done], [2, "skip", (5, 0, 6, 3)])
        self.assertEqual([live.undo(), live.done, len(live)], ["skip", (), 0])
        self.assertEqual([live.do(5), live.skip_to(3), live.done], [45, 3, (5, 0, 6, 3)])
        self.assertEqual([live.do(1), live.skip_to(4), live.done], [2, 1, (5, 0, 6, 3, 1, 4)])
        self.assertEqual([live.undo(), live.undo(), live.undo(), live.undo()], ["skip", "do", "skip", "do"])

    def test_skip_to_where_some_are_done(self):
        forest = (None, 0, 1, 2, 3, 4)
        for many in range(6):
            for thing in range(many, 6):
                live = LiveList(forest)
                for done in range(many):
                    live.do(done)
                self.assertEqual([live.skip_to(thing), live.done], [thing - many + 1, tuple(range(thing + 1))])
                self.assertEqual([live.undo(), live.done, len(live)], ["skip", tuple(range(many)), many])

    def test_skip_to_deep_things(self):
        for forest in LARGE + [tuple(range(1, 60)) + (None,)]:
            things = range(len(forest))
            thing = max(things, key=lambda one: sum(is_above(forest, top, one) for top in things))
            tops = [one for one in things if is_above(forest, one, thing)]
            live = LiveList(forest)
            self.assertEqual(live.skip_to(thing), len(tops) + 1)
            self.assertEqual(sorted(live.done), sorted(tops + [thing]))
            for place, one in enumerate(live.done):
                self.assertEqual(sum(is_above(forest, top, one) for top in tops), place)
            self.assertEqual([len(live), live.undo(), live.done], [1, "skip", ()])

    def test_undo(self):
        live = LiveList(EXAMPLE)
        self.assert_due(live.undo, [], [], NothingToUndo)
        live.do(4)
        live.skip_to(3)
        live.do(2)
        self.assertEqual([live.done, len(live)], [(4, 0, 1, 3, 2), 3])
        self.assertEqual([live.undo(), live.done, live.undo(), live.done], ["do", (4, 0, 1, 3), "skip", (4,)])
        # What has been taken back can be done again, and taken back again.
        self.assertEqual([live.skip_to(2), live.done, len(live)], [2, (4, 0, 2), 2])
        self.assertEqual([live.undo(), live.undo(), live.done, len(live)], ["skip", "do", (), 0])
        self.assert_due(live.undo, [], [], NothingToUndo)
        self.assertEqual([live.done, len(live), live.do(0)], [(), 0, 12])

    def test_try_changes(self):
        live = LiveList(EXAMPLE)
        live.do(0)
        before = shown(live)
        self.assertEqual(live.try_changes(), [])
        self.assertEqual(live.try_changes(("skip", 3), ("do", 4), ("skip", 2)), [2, 1, 1])
        self.assertEqual(live.try_changes(("do", 1), ("do", 2), ("do", 3), ("do", 4)), [6, 2, 1, 1])
        self.assertEqual(shown(live), before)
        self.assertEqual(live.undo(), "do")
        self.assertEqual(live.try_changes(("skip", 3)), [3])
        self.assert_due(live.undo, [], [], NothingToUndo)

    def test_the_first_change_that_fails_decides(self):
        cases = [([("do", 0)], DoneAlready), ([("do", 3)], NotReady), ([("do", 9)], InvalidThing),
                 ([("skip", 0)], DoneAlready), ([("skip", True)], InvalidThing), ([("do", 1), ("do", 1)], DoneAlready),
                 ([("do", 1), ("skip", 1), None], DoneAlready), ([None, ("do", 0)], InvalidChange),
                 ([("do", 1), ("undo", 1), ("do", 0)], InvalidChange), ([("do", 2), ("do", 3), ("do", 9)], NotReady),
                 ([("skip", 3), ("do", 2), ("do", 4), ("do", None)], InvalidThing),
                 ([("skip", 3), ("do", 2), ("do", 4), ("skip", 4)], DoneAlready),
                 ([("do", 9), None], InvalidThing), ([("do", 0), ("do", 9)], DoneAlready),
                 ([("do", 1), ("do", 2), ("do", 4), ("do", 3), ()], InvalidChange)]
        live = LiveList(EXAMPLE)
        live.do(0)
        before = shown(live)
        for changes, kind in cases:
            with self.assertRaises(kind) as caught:
                live.try_changes(*changes)
            self.assert_of_its_own_class(caught.exception, kind)
            self.assertEqual(shown(live), before)
            # Without the change that fails none is raised, up to there.
            if kind is NotReady:
                self.assertEqual(caught.exception.thing, 1)
        self.assertEqual([live.try_changes(("do", 1), ("do", 3)), live.undo()], [[6, 2], "do"])

    def test_values_that_are_no_changes(self):
        for kind in CLASSES:
            live = kind(EXAMPLE)
            live.do(0)
            before = shown(live)
            for value in NO_CHANGE:
                for changes in ([value], [("do", 1), value], [value, ("do", 1)], [("skip", 3), value, ("do", 0)],
                                [value, value], [("do", 1), ("do", 3), ("do", 4), value]):
                    with self.assertRaises(InvalidChange) as caught:
                        live.try_changes(*changes)
                    self.assert_of_its_own_class(caught.exception, InvalidChange)
                    self.assertEqual(shown(live), before)
            for value in NO_INDEX + [5, 6]:
                for word in ("do", "skip"):
                    with self.assertRaises(InvalidThing):
                        live.try_changes((word, value))
            self.assertEqual([shown(live), live.undo()], [before, "do"])

    def test_wrong_things(self):
        for kind in CLASSES:
            live = kind(EXAMPLE)
            live.skip_to(1)
            before = shown(live)
            for value in NO_INDEX + [5, 6]:
                self.assert_due(live.do, ["thing"], [value], InvalidThing)
                self.assert_due(live.skip_to, ["thing"], [value], InvalidThing)
            for thing in (0, 1):
                self.assert_due(live.do, ["thing"], [thing], DoneAlready)
                self.assert_due(live.skip_to, ["thing"], [thing], DoneAlready)
            self.assertEqual(shown(live), before)

    def test_not_ready(self):
        forest = (5, None, 0, 6, 1, None, 0)
        live = LiveList(forest)
        for thing, holder in enumerate(forest):
            if holder is not None:
                self.assert_due(live.do, ["thing"], [thing], NotReady, thing=holder)
                with self.assertRaises(NotReady) as caught:
                    live.try_changes(("do", thing))
                self.assertEqual(caught.exception.thing, holder)
        live.do(5)
        # Its holder can be next now, but it is not done.
        self.assert_due(live.do, ["thing"], [2], NotReady, thing=0)
        self.assert_due(live.do, ["thing"], [3], NotReady, thing=6)
        self.assertEqual([live.done, len(live), live.ready], [(5,), 1, (0, 1)])

    def test_lists_are_new(self):
        live = LiveList(EXAMPLE)
        for function in (live.told_words, live.try_changes, lambda: live.try_changes(("do", 0), ("do", 1))):
            first, second = function(), function()
            kept = list(second)
            first.append("more")
            first.reverse()
            self.assertEqual([second, function()], [kept, kept])

    def test_two_objects(self):
        for kind in CLASSES:
            live, other = kind(EXAMPLE), kind(EXAMPLE)
            live.do(0)
            self.assertEqual([other.done, len(other)], [(), 0])
            other.skip_to(4)
            self.assertEqual([live.done, live.left, other.done, other.left], [(0,), 12, (4,), 3])
            live.undo()
            self.assertEqual([live.done, other.done, len(live), len(other)], [(), (4,), 0, 1])

    def test_properties_are_not_assigned(self):
        live = LiveList(EXAMPLE)
        for name in ("done", "ready", "left"):
            with self.assertRaises(AttributeError):
                setattr(live, name, ())
        self.assertEqual([type(live.done), type(live.ready), type(live.left)], [tuple, tuple, int])

    def test_by_name(self):
        live = LiveList(forest=EXAMPLE)
        self.assertEqual([live.do(thing=4), live.skip_to(thing=1), live.done], [3, 2, (4, 0, 1)])
        self.assertEqual(LiveList.read(forest_text="- 0").ready, (0,))
        self.assertIs(LiveList.is_valid(value=(None, 0)), True)


class OfTheClass(Live):
    def test_wrong_forests(self):
        for kind in CLASSES:
            for value in NO_FOREST:
                self.assert_due(kind, ["forest"], [value], InvalidForest)
                self.assertIs(kind.is_valid(value), False)

    def test_is_valid(self):
        for kind in CLASSES:
            live = kind(ONE_THING)
            for value in SMALL[::9] + LARGER + LARGE:
                self.assertEqual([kind.is_valid(value), live.is_valid(value)], [True, True])
            for value in NO_FOREST:
                self.assertIs(live.is_valid(value), is_forest(value))
                self.assertIs(live.is_valid(value), False)

    def test_empty(self):
        for kind in CLASSES:
            live = kind(EXAMPLE)
            live.do(0)
            self.assertEqual([kind.EMPTY, live.EMPTY, type(live.EMPTY)], [(), (), tuple])

    def test_read(self):
        for kind in CLASSES:
            for reader in (kind, kind(ONE_THING)):
                live = reader.read("- 0 0 1 -")
                self.assertIs(type(live), kind)
                self.assertEqual([live.done, live.ready, live.left, len(live)], [(), (0, 4), 15, 0])
                self.assertEqual(live.skip_to(3), 3)
                self.assertEqual(reader.read(forest_text="-").ready, (0,))
                for value in NO_FOREST_TEXT:
                    self.assert_due(reader.read, ["forest_text"], [value], InvalidText)

    def test_methods_are_defined_in_the_class_itself(self):
        for name in """__init__ __len__ do skip_to undo try_changes told_words done ready left EMPTY read
                       is_valid""".split():
            self.assertIn(name, vars(LiveList))
        self.assertIsInstance(vars(LiveList)["read"], classmethod)
        self.assertIsInstance(vars(LiveList)["is_valid"], staticmethod)
        self.assertTrue(all(isinstance(vars(LiveList)[name], property) for name in ("done", "ready", "left")))
        self.assertEqual([kind.__module__ for kind in CLASSES], ["heldbehind.live"] + ["heldbehind.kinds"] * 3)


class Large(Live):
    def test_drawn_sequences(self):
        for seed, forest in enumerate(LARGE):
            for kind in (LiveList, BoundedList):
                order = random_sequence(forest, seed)
                live = made(kind, forest, None if kind is LiveList else 60)
                for at, thing in enumerate(order):
                    left = live.do(thing)
                    if at % 7 == 0 or at > len(order) - 3:
                        self.check_large(live, forest, order[:at + 1], left)
                self.assertIs(is_sequence(forest, list(live.done)), True)
                for at in range(len(order) - 1, -1, -1):
                    self.assertEqual([live.undo(), len(live)], ["do", at])
                self.assertEqual([live.done, live.left], [(), count_by_shuffling(forest)])

    def check_large(self, live, forest, done, left):
        self.assertEqual([live.done, len(live), live.left], [tuple(done), len(done), left])
        self.assertEqual(left, count_by_shuffling(rest_of(forest, done)) if len(done) < len(forest) else 1)
        ready = [thing for thing, holder in enumerate(forest)
                 if thing not in done and (holder is None or holder in done)]
        self.assertEqual(live.ready, tuple(ready))
        self.assertEqual(live.told_words()[:2], [f"done {len(done)}", f"ready {len(ready)}"])
        tried = live.try_changes(*[("do", thing) for thing in ready])
        behind = [count_by_shuffling(rest_of(forest, done + ready[:at + 1])) if len(done) + at + 1 < len(forest) else 1
                  for at in range(len(ready))]
        self.assertEqual([tried, live.done], [behind, tuple(done)])

    def test_drawn_skips(self):
        for seed, forest in enumerate(LARGE):
            draw = Random(seed)
            live = LiveList(forest)
            dones = [()]
            while len(live.done) < len(forest):
                thing = draw.choice([one for one in range(len(forest)) if one not in live.done])
                many = live.skip_to(thing)
                due = [one for one in range(len(forest)) if one == thing or is_above(forest, one, thing)]
                self.assertEqual(sorted(live.done[len(dones[-1]):]), [one for one in due if one not in dones[-1]])
                self.assertEqual([live.done[-1], len(live.done)], [thing, len(dones[-1]) + many])
                dones.append(live.done)
            self.assertIs(is_sequence(forest, list(live.done)), True)
            while len(live):
                dones.pop()
                self.assertEqual([live.undo(), live.done], ["skip", dones[-1]])

    def test_sixty_changes(self):
        live = LiveList(no_holders(60))
        found = live.try_changes(*[("do", thing) for thing in range(59, -1, -1)])
        self.assertEqual([found[:2], found[-3:]], [[live.left // 60, live.left // 60 // 59], [2, 1, 1]])
        self.assertEqual(LiveList(row(60)).try_changes(("skip", 59)), [60])
        self.assertEqual(LiveList(one_above_all(60)).try_changes(("skip", 59), ("skip", 58)), [2, 1])
        with self.assertRaises(DoneAlready):
            live.try_changes(*[("do", thing) for thing in range(60)], ("do", 0))
        self.assertEqual([live.done, len(live)], [(), 0])

    def test_many_more_things(self):
        live = LiveList(mixed_forest(300))
        self.assertEqual(live.left, count_by_shuffling(mixed_forest(300)))
        many = live.skip_to(299)
        self.assertEqual([len(live.done), live.undo(), live.done], [many, "skip", ()])


if __name__ == "__main__":
    unittest.main()
