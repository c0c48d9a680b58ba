"""Changed forests: point [22]."""

import unittest
from itertools import product
from random import Random

from counting import (EXAMPLE, LARGER, ONE_THING, SIXTY, SMALL, all_sequences, is_above, mixed_forest, no_holders,
                      one_above_all, random_forest, random_sequence, row, shape_code, sizes_by_hand)
from heldbehind.changes import beside, grafted, part, told_ahead, without
from heldbehind.errors import InvalidForest, InvalidThing, NoForest, OnlyThing, SameThing
from heldbehind.forests import is_forest, sizes
from heldbehind.sequences import count_sequences, is_sequence
from heldbehind.shares import ahead_share

LARGE = SIXTY + [random_forest(many, many) for many in (41, 57, 59, 60)]


def pairs_above(forest):
    """The pairs (a, b) such that a is above b."""
    return {(a, b) for a, b in product(range(len(forest)), repeat=2) if is_above(forest, a, b)}


def pairs_among(forest, things):
    """These pairs, of some things alone, renamed by their order."""
    return {(things.index(a), things.index(b)) for a, b in pairs_above(forest) if a in things and b in things}


def moved(pairs, many):
    return {(a + many, b + many) for a, b in pairs}


class Two(unittest.TestCase):
    def test_examples(self):
        self.assertEqual(grafted((None, 0), 1, (None, None)), (None, 0, 1, 1))
        self.assertEqual(beside((None, 0), (None, None)), (None, 0, None, None))
        self.assertEqual(beside(EXAMPLE, (1, None, 1)), (None, 0, 0, 1, None, 6, None, 6))
        self.assertEqual(grafted(EXAMPLE, 4, (1, None, 1)), (None, 0, 0, 1, None, 6, 4, 6))

    def test_by_what_is_above(self):
        for forest in SMALL[::4] + LARGER:
            for other in SMALL[1::9] + LARGER[:4]:
                both = beside(forest, other)
                many = len(forest)
                self.assertTrue(is_forest(both))
                self.assertEqual(pairs_above(both), pairs_above(forest) | moved(pairs_above(other), many))
                for thing in range(many):
                    on = grafted(forest, thing, other)
                    self.assertTrue(is_forest(on))
                    tops = [thing] + [one for one in range(many) if is_above(forest, one, thing)]
                    more = {(one, behind) for one in tops for behind in range(many, len(on))}
                    self.assertEqual(pairs_above(on), pairs_above(both) | more)

    def test_the_first_parts_stay(self):
        for forest in LARGE:
            for other in LARGE[::2]:
                many = len(forest)
                both = beside(forest, other)
                self.assertEqual([both[:many], len(both)], [forest, many + len(other)])
                self.assertEqual(sizes(both), sizes(forest) + sizes(other))
                # At a thing without a holder, at one that holds nothing, and at some other one.
                places = [forest.index(None), sizes_by_hand(forest).index(1), many // 2]
                for thing in places:
                    on = grafted(forest, thing, other)
                    self.assertEqual(on[:many], forest)
                    self.assertEqual([held for held, holder in enumerate(on[many:]) if holder == thing],
                                     [held for held, holder in enumerate(other) if holder is None])
                    self.assertEqual([None if holder == thing else holder - many for holder in on[many:]], list(other))

    def test_one_thing(self):
        self.assertEqual([beside(ONE_THING, ONE_THING), grafted(ONE_THING, 0, ONE_THING)], [(None, None), (None, 0)])
        self.assertEqual(beside(ONE_THING, EXAMPLE), (None, None, 1, 1, 2, None))
        self.assertEqual(grafted(ONE_THING, 0, EXAMPLE), (None, 0, 1, 1, 2, 0))
        self.assertEqual(beside(EXAMPLE, EXAMPLE), (None, 0, 0, 1, None, None, 5, 5, 6, None))

    def test_more_than_sixty_things(self):
        forest = mixed_forest(60)
        for _ in range(2):
            forest = beside(forest, forest)
        self.assertEqual([len(forest), is_forest(forest)], [240, True])
        self.assertEqual(len(grafted(forest, 239, row(60))), 300)
        self.assertEqual(count_sequences(grafted(row(240), 239, row(60))), 1)

    def test_errors(self):
        for forest, other in [(None, ONE_THING), (ONE_THING, None), ((0,), (0,)), (EXAMPLE, [None]), ([None], EXAMPLE)]:
            with self.assertRaises(InvalidForest):
                beside(forest, other)
        for forest, thing, other, kind in [((), 9, (), InvalidForest), (EXAMPLE, 5, (), InvalidThing),
                                           (EXAMPLE, True, None, InvalidThing), (EXAMPLE, 0, None, InvalidForest),
                                           (EXAMPLE, 4, (1, 0), InvalidForest), (EXAMPLE, -1, EXAMPLE, InvalidThing),
                                           # The things are those of the first forest.
                                           (ONE_THING, 1, EXAMPLE, InvalidThing)]:
            with self.assertRaises(kind):
                grafted(forest, thing, other)
            with self.assertRaises(kind):
                grafted(other=other, thing=thing, forest=forest)


class Parts(unittest.TestCase):
    def test_examples(self):
        self.assertEqual([part(EXAMPLE, 1), without(EXAMPLE, 1)], [(None, 0), (None, 0, 0, None)])
        self.assertEqual([part(EXAMPLE, 0), part(EXAMPLE, 4)], [(None, 0, 0, 1), (None,)])
        self.assertEqual([without(EXAMPLE, 0), without(EXAMPLE, 3)], [(None, None, 0, None), (None, 0, 0, None)])

    def test_by_what_is_above(self):
        for forest in SMALL + LARGER:
            for thing in range(len(forest)):
                things = [one for one in range(len(forest)) if one == thing or is_above(forest, thing, one)]
                found = part(forest, thing)
                self.assertTrue(is_forest(found) and len(found) == len(things))
                self.assertEqual(pairs_above(found), pairs_among(forest, things))
                if len(forest) > 1:
                    others = [one for one in range(len(forest)) if one != thing]
                    less = without(forest, thing)
                    self.assertTrue(is_forest(less) and len(less) == len(others))
                    self.assertEqual(pairs_above(less), pairs_among(forest, others))

    def test_large_forests(self):
        for forest in LARGE:
            size_list = sizes_by_hand(forest)
            for thing in list(range(0, len(forest), 7)) + [len(forest) - 1, forest.index(None), size_list.index(1)]:
                things = [one for one in range(len(forest)) if one == thing or is_above(forest, thing, one)]
                found = part(forest, thing)
                self.assertEqual(sizes(found), [size_list[one] for one in things])
                self.assertEqual([found[things.index(thing)], len(found)], [None, size_list[thing]])
                others = [one for one in range(len(forest)) if one != thing]
                less = without(forest, thing)
                self.assertEqual(sizes(less), [size_list[one] - is_above(forest, one, thing) for one in others])
                for at, one in enumerate(others):
                    holder = forest[thing] if forest[one] == thing else forest[one]
                    self.assertEqual(less[at], None if holder is None else others.index(holder))

    def test_indexes_in_any_order(self):
        # 5 holds 0 and 1, 0 holds 2 and 6; 3 holds 4.
        forest = (5, 5, 0, None, 3, None, 0)
        self.assertEqual([part(forest, 5), part(forest, 0)], [(3, 3, 0, None, 0), (None, 0, 0)])
        self.assertEqual([part(forest, 3), part(forest, 6)], [(None, 0), (None,)])
        self.assertEqual(without(forest, 5), (None, None, 0, None, 3, 0))
        self.assertEqual(without(forest, 0), (4, 4, None, 2, None, 4))
        self.assertEqual(without(forest, 3), (4, 4, 0, None, None, 0))
        self.assertEqual(without(forest, 6), (5, 5, 0, None, 3, None))

    def test_things_that_hold_others(self):
        # With and without a holder of their own.
        self.assertEqual(without((None, 0, 1, 1), 1), (None, 0, 0))
        self.assertEqual(without((None, 0, 0, 0), 0), (None, None, None))
        self.assertEqual(without((1, 2, None), 2), (1, None))
        self.assertEqual(without((1, 2, None), 1), (1, None))
        self.assertEqual(without(row(60), 0), row(59))
        self.assertEqual(without(row(60), 30), row(59))
        self.assertEqual(without(one_above_all(60), 0), no_holders(59))
        self.assertEqual(without(one_above_all(60), 59), one_above_all(59))

    def test_the_whole_and_one_thing(self):
        for forest in (ONE_THING, row(60), one_above_all(60), (1, None, 1)):
            self.assertEqual(part(forest, forest.index(None)), forest)
        for forest in LARGE:
            thing = sizes_by_hand(forest).index(1)
            self.assertEqual(part(forest, thing), ONE_THING)
        self.assertEqual(without((None, 0), 0), ONE_THING)
        self.assertEqual(without((None, 0), 1), ONE_THING)

    def test_put_together_again(self):
        for forest in LARGE:
            tops = [part(forest, thing) for thing, holder in enumerate(forest) if holder is None]
            again = tops[0]
            for one in tops[1:]:
                again = beside(again, one)
            self.assertEqual(shape_code(again), shape_code(forest))

    def test_only_thing(self):
        with self.assertRaises(OnlyThing):
            without(ONE_THING, 0)
        with self.assertRaises(OnlyThing):
            without(thing=0, forest=ONE_THING)
        for thing in (1, -1, True, False, None):
            with self.assertRaises(InvalidThing):
                without(ONE_THING, thing)
        for forest in ((0,), (), [None], None):
            with self.assertRaises(InvalidForest):
                without(forest, 0)
        self.assertEqual(part(ONE_THING, 0), ONE_THING)


class ToldAhead(unittest.TestCase):
    def test_example(self):
        self.assertEqual(told_ahead(EXAMPLE, 4, 0), (4, 0, 0, 1, None))

    def test_by_all_sequences(self):
        """Whether there is such a forest is told by all forests of as many things."""
        for many in (2, 3, 4):
            forests = [forest for forest in SMALL if len(forest) == many]
            by_sequences = {tuple(map(tuple, all_sequences(forest))): forest for forest in forests}
            for forest in forests:
                there = all_sequences(forest)
                for thing, other in product(range(many), repeat=2):
                    if thing != other:
                        kept = tuple(tuple(one) for one in there if one.index(thing) < one.index(other))
                        self.check(forest, thing, other, by_sequences.get(kept), kept)

    def check(self, forest, thing, other, due, kept):
        if due is None and kept:
            with self.assertRaises(NoForest):
                told_ahead(forest, thing, other)
        else:
            self.assertEqual(told_ahead(forest, thing, other), due)

    def test_larger_forests(self):
        for forest in LARGER:
            there = all_sequences(forest)
            for thing, other in product(range(len(forest)), repeat=2):
                if thing != other:
                    kept = [one for one in there if one.index(thing) < one.index(other)]
                    self.check(forest, thing, other, self.forest_by_hand(kept), kept)

    def forest_by_hand(self, kept):
        """The only forest that can have just these sequences, or None if it has not."""
        if not kept:
            return None
        holders = []
        for thing in range(len(kept[0])):
            begun = [one[:one.index(thing)] for one in kept]
            ahead = [one for one in begun[0] if all(one in other for other in begun)]
            holders.append(ahead[-1] if ahead else None)
        return tuple(holders) if all_sequences(holders) == kept else None

    def test_each_kind(self):
        # 0 holds 1 and 2, 1 holds 3 and 4; 5 holds 6.
        forest = (None, 0, 0, 1, 1, None, 5)
        for thing, other in [(0, 1), (0, 3), (1, 4), (5, 6)]:
            self.assertEqual(told_ahead(forest, thing, other), forest)
            self.assertIs(told_ahead(forest, other, thing), None)
        # The holder of the other one is None.
        self.assertEqual(told_ahead(forest, 6, 0), (6, 0, 0, 1, 1, None, 5))
        self.assertEqual(told_ahead(forest, 4, 5), (None, 0, 0, 1, 1, 4, 5))
        self.assertEqual(told_ahead(forest, 0, 5), (None, 0, 0, 1, 1, 0, 5))
        # It is above the first thing, as its holder or farther off.
        self.assertEqual(told_ahead(forest, 2, 1), (None, 2, 0, 1, 1, None, 5))
        self.assertEqual(told_ahead(forest, 3, 2), (None, 0, 3, 1, 1, None, 5))
        self.assertEqual(told_ahead(forest, 3, 4), (None, 0, 0, 1, 3, None, 5))
        for thing, other in [(2, 3), (5, 3), (6, 4), (5, 1), (6, 2), (1, 6), (0, 6), (3, 6)]:
            with self.assertRaises(NoForest):
                told_ahead(forest, thing, other)

    def test_large_forests(self):
        kinds = set()
        for seed, forest in enumerate(LARGE):
            draw = Random(seed)
            for _ in range(40):
                thing, other = draw.sample(range(len(forest)), 2)
                kinds.add(self.check_large(forest, thing, other))
        self.assertEqual(kinds, {"none", "no forest", "there"})

    def check_large(self, forest, thing, other):
        holder = forest[other]
        if is_above(forest, other, thing):
            self.assertIs(told_ahead(forest, thing, other), None)
            return "none"
        if not is_above(forest, thing, other) and holder is not None and not is_above(forest, holder, thing):
            with self.assertRaises(NoForest):
                told_ahead(forest, thing, other)
            return "no forest"
        found = told_ahead(forest, thing, other)
        self.assertTrue(is_forest(found))
        self.assertTrue(is_above(found, thing, other))
        # As many as the share of those in which it is ahead says, and each of them one of the forest.
        top, bottom = ahead_share(forest, thing, other)
        self.assertEqual(count_sequences(found) * bottom, count_sequences(forest) * top)
        self.assertTrue(is_sequence(forest, random_sequence(found, thing)))
        return "there"

    def test_rows(self):
        self.assertEqual(told_ahead(row(60), 3, 59), row(60))
        self.assertIs(told_ahead(row(60), 59, 3), None)
        self.assertEqual(told_ahead(no_holders(60), 59, 0), (59,) + (None,) * 59)

    def test_same_thing(self):
        for forest in (ONE_THING, EXAMPLE, row(60)):
            for thing in {0, len(forest) - 1}:
                with self.assertRaises(SameThing):
                    told_ahead(forest, thing, thing)
        for forest, thing, other, kind in [(EXAMPLE, 5, 5, InvalidThing), (EXAMPLE, 0, 5, InvalidThing),
                                           (EXAMPLE, 1, True, InvalidThing), (EXAMPLE, False, 0, InvalidThing),
                                           ((0,), 0, 0, InvalidForest), (ONE_THING, 0, 1, InvalidThing)]:
            with self.assertRaises(kind):
                told_ahead(forest, thing, other)


if __name__ == "__main__":
    unittest.main()
