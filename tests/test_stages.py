"""Known stages: points [6], [16] and [17]."""

import unittest
from fractions import Fraction
from itertools import combinations, permutations
from math import comb, factorial, prod
from random import Random

from counting import (EXAMPLE, LARGER, ONE_THING, SIXTY, SMALL, all_sequences, count_by_shuffling, drawn_indexes,
                      fractions, mixed_forest, no_holders, one_above_all, pair, random_forest, random_sequence,
                      row, share_of)
from heldbehind.errors import InvalidEnds, InvalidIndex, InvalidStages, NoSequence
from heldbehind.sequences import count_sequences, is_sequence, nth_sequence, sequence_index
from heldbehind.shares import last_share
from heldbehind.stages import count_with, last_count, next_shares, nth_with, share_with, stage_fault

LARGE = SIXTY + [random_forest(many, many) for many in (41, 57, 59, 60)]


def all_stages(things):
    """All stages of some of the things."""
    found = [[]]
    for many in range(1, len(things) + 1):
        for stage in combinations(things, many):
            found += [[stage] + rest for rest in all_stages([thing for thing in things if thing not in stage])]
    return found


def keeps(sequence, stages):
    at = 0
    for stage in stages:
        if sorted(sequence[at:at + len(stage)]) != list(stage):
            return False
        at += len(stage)
    return True


def fault_by_hand(forest, stages):
    for index, stage in enumerate(stages):
        known = [thing for one in stages[:index + 1] for thing in one]
        for thing in stage:
            if forest[thing] is not None and forest[thing] not in known:
                return (index, thing)
    return None


def cut(things, seed):
    """A list of things cut into stages, each as an ascending tuple."""
    draw = Random(seed)
    found, at = [], 0
    while at < len(things):
        many = draw.choice([1, 1, 2, 3, 5, 11])
        found.append(tuple(sorted(things[at:at + many])))
        at += many
    return found


def drawn_stages(forest, seed):
    """Stages that some sequence keeps, with some things, none or all of them."""
    many = [0, len(forest), len(forest) // 2, 1, len(forest) - 1][seed % 5]
    return cut(random_sequence(forest, seed)[:many], seed)


class Stages(unittest.TestCase):
    def check(self, forest, there, stages):
        kept = [one for one in there if keeps(one, stages)]
        self.assertEqual(stage_fault(forest, stages), fault_by_hand(forest, stages))
        self.assertEqual(stage_fault(forest, stages) is None, len(kept) > 0)
        self.assertEqual(count_with(forest, stages), len(kept))
        self.assertEqual(share_with(forest, stages), share_of(there, lambda one: keeps(one, stages)))
        self.assertEqual([nth_with(forest, stages, index) for index in range(len(kept))], kept)
        if not kept:
            for index in (0, -1, None):
                with self.assertRaises(NoSequence):
                    nth_with(forest, stages, index)
            with self.assertRaises(NoSequence):
                next_shares(forest, stages)
            return
        for index in (-1, len(kept)):
            with self.assertRaises(InvalidIndex):
                nth_with(forest, stages, index)
        at = sum(len(stage) for stage in stages)
        seen = sorted({one[at] for one in kept if at < len(one)})
        self.assertEqual(next_shares(forest, stages),
                         [(thing, share_of(kept, lambda one: one[at] == thing)) for thing in seen])

    def test_examples(self):
        self.assertEqual([count_with(EXAMPLE, [(0, 4), (1,)]), stage_fault(EXAMPLE, [(0,), (3, 4)])], [4, (1, 3)])
        self.assertEqual(next_shares(EXAMPLE, [(0,)]), [(1, (1, 2)), (2, (1, 4)), (4, (1, 4))])

    def test_all_stages_of_small_forests(self):
        self.assertEqual([len(all_stages(list(range(many)))) for many in range(5)], [1, 2, 6, 26, 150])
        for forest in SMALL:
            there = all_sequences(forest)
            for stages in all_stages(list(range(len(forest)))):
                self.check(forest, there, stages)

    def test_drawn_stages_of_larger_forests(self):
        for forest in LARGER:
            there = all_sequences(forest)
            for seed in range(15):
                self.check(forest, there, drawn_stages(forest, seed))
                # In any order of the things: mostly such as no sequence keeps.
                things = Random(seed).sample(range(len(forest)), len(forest))
                self.check(forest, there, cut(things[:2 + seed % len(forest)], seed))

    def test_no_stages(self):
        for forest in SMALL + LARGER + LARGE:
            many = count_sequences(forest)
            self.assertIs(stage_fault(forest, []), None)
            self.assertEqual([count_with(forest, []), share_with(forest, [])], [many, (1, 1)])
            for index in (0, many // 2, many - 1):
                self.assertEqual(nth_with(forest, [], index), nth_sequence(forest, index))

    def test_all_things(self):
        for forest in SMALL + LARGER + LARGE:
            many = count_sequences(forest)
            one = random_sequence(forest, len(forest))
            singles = [(thing,) for thing in one]
            self.assertEqual([count_with(forest, singles), nth_with(forest, singles, 0)], [1, one])
            self.assertEqual([next_shares(forest, singles), share_with(forest, singles)], [[], (1, many)])
            at_once = [tuple(range(len(forest)))]
            self.assertEqual([count_with(forest, at_once), next_shares(forest, at_once)], [many, []])
            self.assertEqual(nth_with(forest, at_once, many - 1), nth_sequence(forest, many - 1))

    def test_one_thing(self):
        for stages in ([], [(0,)]):
            self.assertIs(stage_fault(ONE_THING, stages), None)
            self.assertEqual([count_with(ONE_THING, stages), share_with(ONE_THING, stages)], [1, (1, 1)])
            self.assertEqual(nth_with(ONE_THING, stages, 0), [0])
        self.assertEqual([next_shares(ONE_THING, []), next_shares(ONE_THING, [(0,)])], [[(0, (1, 1))], []])

    def test_the_first_fault(self):
        # The least stage, and in it the least thing, of several faults.
        forest = (4, None, 1, 1, 2)
        for stages, fault in [([(0,)], (0, 0)), ([(2, 3)], (0, 2)), ([(1,), (0, 4)], (1, 4)), ([(0, 2, 4)], (0, 2)),
                              ([(1,), (3,), (0,), (4,)], (2, 0)), ([(0,), (1,), (2,), (4,)], (0, 0)),
                              ([(1, 3), (0, 4), (2,)], (1, 4)), ([(1, 2), (0, 4)], None), ([(1, 2), (0,)], (1, 0)),
                              ([(1,), (2,), (0,), (3,)], (2, 0)), ([(0, 1, 2, 3, 4)], None)]:
            self.assertEqual(stage_fault(forest, stages), fault)
            if fault is not None:
                self.assertEqual([count_with(forest, stages), share_with(forest, stages)], [0, (0, 1)])

    def test_large_forests(self):
        for forest in LARGE:
            for seed in range(5):
                stages = drawn_stages(forest, seed)
                self.assertIs(stage_fault(forest, stages), None)
                self.check_large(forest, stages, seed)

    def check_large(self, forest, stages, seed):
        placed = [thing for stage in stages for thing in stage]
        rest = tuple(thing for thing in range(len(forest)) if thing not in placed)
        blocks = [block for block in stages + [rest] if block]
        parts = [tuple(block.index(forest[thing]) if forest[thing] in block else None for thing in block)
                 for block in blocks]
        many = prod(count_by_shuffling(part) for part in parts)
        self.assertEqual(count_with(forest, stages), many)
        self.assertEqual(share_with(forest, stages), pair(Fraction(many, count_by_shuffling(forest))))
        indexes = drawn_indexes(many, seed)
        found = [nth_with(forest, stages, index) for index in indexes]
        places = [sequence_index(forest, one) for one in found]
        self.assertEqual(places, sorted(set(places)))
        for one, place in zip(found, places):
            self.assertTrue(is_sequence(forest, one) and keeps(one, stages))
            self.assertEqual(nth_sequence(forest, place), one)
        for index in (-1, many):
            with self.assertRaises(InvalidIndex):
                nth_with(forest, stages, index)
        self.check_next(forest, stages, rest, many)

    def check_next(self, forest, stages, rest, many):
        shares = next_shares(forest, stages)
        self.assertEqual([thing for thing, _ in shares], [thing for thing in rest if forest[thing] not in rest])
        for thing, share in shares:
            self.assertEqual(share, pair(Fraction(count_with(forest, stages + [(thing,)]), many)))
        self.assertEqual(sum(fractions([share for _, share in shares])), 1 if rest else 0)

    def test_indexes_follow_the_order(self):
        # All of them, where a large forest has only few that keep the stages.
        forest = mixed_forest(60)
        one = random_sequence(forest, 3)
        stages = cut(one[:4], 1) + [(thing,) for thing in one[4:51]] + cut(one[51:], 2)
        many = count_with(forest, stages)
        self.assertTrue(20 < many < 5000)
        found = [nth_with(forest, stages, index) for index in range(many)]
        self.assertEqual(found, sorted(found))
        self.assertEqual(len({tuple(one) for one in found}), many)
        self.assertTrue(all(is_sequence(forest, one) and keeps(one, stages) for one in found))

    def test_faults_of_large_forests(self):
        for forest in LARGE:
            held = [thing for thing, holder in enumerate(forest) if holder is not None][-1:]
            for thing in held:
                one = random_sequence(forest, 7)
                begun = [(other,) for other in one[:one.index(forest[thing])]]
                stages = begun + [(thing,)]
                self.assertEqual(stage_fault(forest, stages), (len(begun), thing))
                self.assertEqual([count_with(forest, stages), share_with(forest, stages)], [0, (0, 1)])
                # Its holder behind it does not help.
                self.assertEqual(stage_fault(forest, stages + [(forest[thing],)]), (len(begun), thing))
                both = begun + [tuple(sorted([thing, forest[thing]]))]
                self.assertIs(stage_fault(forest, both), None)

    def test_no_holders(self):
        forest = no_holders(60)
        stages = [(7, 8, 9), tuple(range(20, 40)), (0,)]
        self.assertEqual(count_with(forest, stages), 6 * factorial(20) * factorial(36))
        self.assertEqual(share_with(forest, stages), pair(Fraction(1, comb(60, 3) * comb(57, 20) * 37)))
        self.assertEqual(nth_with(forest, stages, 0)[:5], [7, 8, 9, 20, 21])
        self.assertEqual(nth_with(forest, stages, factorial(36))[:3], [7, 8, 9])
        self.assertEqual(nth_with(forest, stages, factorial(36) * factorial(20))[:3], [7, 9, 8])
        self.assertEqual(next_shares(forest, stages)[0], (1, (1, 36)))

    def test_rows_and_bushes(self):
        self.assertEqual(count_with(row(60), [tuple(range(30)), tuple(range(30, 59))]), 1)
        self.assertEqual(stage_fault(row(60), [tuple(range(30)), tuple(range(31, 60))]), (1, 31))
        self.assertEqual(count_with(one_above_all(60), [(0, 1, 2)]), 2 * factorial(57))
        self.assertEqual(next_shares(row(60), [(0, 1)]), [(2, (1, 1))])
        self.assertEqual(next_shares(one_above_all(60), []), [(0, (1, 1))])

    def test_order_of_the_errors(self):
        faulty = [(1,)]
        for stages, index, kind in [(None, 0, InvalidStages), ([()], -1, InvalidStages), (faulty, 0, NoSequence),
                                    (faulty, True, NoSequence), (faulty, "0", NoSequence), ([(0,)], True, InvalidIndex),
                                    ([(0,)], 12, InvalidIndex), ([(1, 1)], None, InvalidStages)]:
            with self.assertRaises(kind):
                nth_with(EXAMPLE, stages, index)
            with self.assertRaises(kind):
                nth_with(index=index, stages=stages, forest=EXAMPLE)
        self.assertEqual(count_with(EXAMPLE, [(0,)]), 12)

    def test_many_more_things(self):
        forest = random_forest(300, 1)
        one = random_sequence(forest, 1)
        stages = cut(one[:200], 4)
        index = sequence_index(forest, nth_with(forest, stages, count_with(forest, stages) - 1))
        self.assertTrue(keeps(nth_sequence(forest, index), stages))
        self.assertEqual(sum(fractions([share for _, share in next_shares(forest, stages)])), 1)


class Ends(unittest.TestCase):
    def test_example(self):
        self.assertEqual(last_count(EXAMPLE, [3, 2]), 3)

    def test_all_ends_of_small_forests(self):
        for forest in SMALL:
            self.check_ends(forest, len(forest))

    def test_larger_forests(self):
        for forest in LARGER:
            self.check_ends(forest, 3)

    def check_ends(self, forest, most):
        there = all_sequences(forest)
        for many in range(most + 1):
            for ends in permutations(range(len(forest)), many):
                expected = sum(1 for one in there if one[len(one) - many:] == list(ends))
                self.assertEqual(last_count(forest, list(ends)), expected)

    def test_no_ends_and_all_things(self):
        for seed, forest in enumerate(LARGER + LARGE):
            self.assertEqual(last_count(forest, []), count_sequences(forest))
            one = random_sequence(forest, seed)
            self.assertEqual(last_count(forest, one), 1)
            self.assertEqual(last_count(forest, one[::-1]), 1 if set(forest) == {None} else 0)
        self.assertEqual([last_count(ONE_THING, []), last_count(ONE_THING, [0])], [1, 1])

    def test_large_forests(self):
        for seed, forest in enumerate(LARGE):
            one = random_sequence(forest, seed)
            for many in (1, 2, 7, len(forest) // 2, len(forest) - 1):
                rest = sorted(one[:-many])
                part = tuple(rest.index(forest[thing]) if forest[thing] in rest else None for thing in rest)
                self.assertEqual(last_count(forest, one[-many:]), count_by_shuffling(part))

    def test_the_last_thing_by_its_share(self):
        for forest in LARGE:
            shares = [pair(Fraction(last_count(forest, [thing]), count_sequences(forest)))
                      for thing in range(len(forest))]
            self.assertEqual(shares, [last_share(forest, thing) for thing in range(len(forest))])

    def test_ends_that_no_sequence_has(self):
        for forest in LARGE:
            for thing, holder in enumerate(forest):
                if holder is not None:
                    self.assertEqual(last_count(forest, [thing, holder]), 0)
                    self.assertEqual(last_count(forest, [holder]), 0)
        self.assertEqual([last_count(EXAMPLE, ends) for ends in ([1], [3, 1], [0, 1, 2, 3], [1, 3], [2, 1, 3])],
                         [0, 0, 1, 3, 2])

    def test_no_ends_at_all(self):
        for ends in (None, True, 3, "3", (3,), {3}, {3: 2}, [3, 3], [5], [-1], [True], [None], ["3"], [[3]], [(3,)]):
            with self.assertRaises(InvalidEnds):
                last_count(EXAMPLE, ends)
            with self.assertRaises(InvalidEnds):
                last_count(ends=ends, forest=EXAMPLE)


if __name__ == "__main__":
    unittest.main()
