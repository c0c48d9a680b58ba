"""Points [1], [2] and [3] for each function: wrong arguments, their order, new lists."""

import unittest
from copy import deepcopy
from functools import wraps
from itertools import product

from heldbehind import alike, changes, forests, sequences, shares, stages, texts, told, turned
from heldbehind.errors import (InvalidCounts, InvalidEnds, InvalidForest, InvalidIndex, InvalidNumber,
                               InvalidPlace, InvalidSequence, InvalidSizes, InvalidStages, InvalidText, InvalidThing,
                               InvalidTold, NoForest, NoSequence, OnlyThing, SameThing)
from wrong import (Cases, FOREST, NO_COUNTS, NO_ENDS, NO_FOREST, NO_FOREST_TEXT, NO_INDEX, NO_SEQUENCE,
                   NO_SEQUENCE_TEXT, NO_SIZES, NO_STAGES, NO_STAGES_TEXT, NO_TOLD)

# Where a parameter is not called by the kind of its values.
CALLED = {"other_forest": "other", "many_things": "many", "order": "sequence", "free_stages": "stages",
          "forest_text": "text", "sequence_text": "text", "stages_text": "text"}
RAISED = {"forest": InvalidForest, "thing": InvalidThing, "other": InvalidThing, "many": InvalidNumber,
          "place": InvalidPlace, "other_place": InvalidPlace, "index": InvalidIndex, "sequence": InvalidSequence,
          "stages": InvalidStages, "ends": InvalidEnds, "turned": InvalidNumber, "other_forest": InvalidForest,
          "counts": InvalidCounts, "many_things": InvalidNumber, "sizes": InvalidSizes, "told": InvalidTold,
          "order": InvalidSequence, "free_stages": InvalidStages, "forest_text": InvalidText,
          "sequence_text": InvalidText, "stages_text": InvalidText}
GOOD = {"forest": FOREST, "thing": 3, "other": 1, "many": 5, "place": 4, "other_place": 0, "index": 2,
        "sequence": [0, 4, 1, 3, 2], "value": [0, 4, 1, 3, 2], "stages": [(0, 4), (1,)], "ends": [3, 2], "turned": 2,
        "other_forest": (None, None, 1, 1, 3), "counts": [1, 2, 3, 3, 3, 2, 1], "many_things": 5,
        "sizes": [1, 1, 1, 2, 3], "told": [[0, 1, 2], [0, 2, 1]], "order": [2, 0, 1], "free_stages": [(0, 4), (59,)],
        "forest_text": "- 0 0 1 -", "sequence_text": "2 > 0 > 1", "stages_text": "0 4 | 59"}
OTHER_GOOD = {"forest": (1, None, 1, 1, 2), "thing": 4, "other": 1, "many": 5, "place": 4, "other_place": 0, "index": 2,
              "sequence": [1, 0, 2, 3, 4], "value": [1, 0, 2, 3, 4], "stages": [(1,), (0, 2)], "ends": [4, 3],
              "turned": 2, "other_forest": (None, 0), "counts": [1, 2, 2, 1], "many_things": 3,
              "sizes": [2, 3, 1, 1, 1], "told": [[1, 0, 2], [1, 0, 2]], "order": [0], "free_stages": [],
              "forest_text": "1 - 1", "sequence_text": "0", "stages_text": ""}


@wraps(sequences.sequences)
def all_of(*values, **named):
    """All values of the generator, so that its errors are raised."""
    return list(sequences.sequences(*values, **named))


# The functions by module, each with its parameters in their order.
MODULES = {
    forests: {
        "sizes": "forest", "depths": "forest", "firsts": "forest", "walk": "forest",
        "above": "forest thing", "below": "forest thing", "held_by": "forest thing",
    },
    sequences: {
        "is_sequence": "forest value", "count_sequences": "forest", "nth_sequence": "forest index",
        "sequence_index": "forest sequence", "next_sequence": "forest sequence", "sequences": "forest",
    },
    shares: {
        "place_shares": "forest thing", "place_range": "forest thing", "mean_place": "forest thing",
        "first_share": "forest thing many", "last_share": "forest thing", "ahead_share": "forest thing other",
        "next_to_share": "forest thing other", "places_share": "forest thing place other other_place",
        "mean_distance": "forest thing other", "sure_pairs": "forest",
    },
    stages: {
        "stage_fault": "forest stages", "count_with": "forest stages", "nth_with": "forest stages index",
        "share_with": "forest stages", "next_shares": "forest stages", "last_count": "forest ends",
    },
    turned: {
        "turned_pairs": "forest sequence", "drop_sum": "forest sequence", "turned_counts": "forest",
        "most_turned": "forest", "nth_by_turned": "forest turned index", "turned_index": "forest sequence",
    },
    alike: {
        "are_alike": "forest other_forest", "parting_size": "forest other_forest", "same_number": "forest other_forest",
        "sizes_back": "counts many_things", "plain": "forest", "shapes_with": "sizes", "count_shapes": "sizes",
        "forest_with": "sizes",
    },
    told: {
        "always_ahead": "told", "count_forests": "told", "nth_forest": "told index", "forest_of": "told",
        "nearest_forest": "told",
    },
    changes: {
        "beside": "forest other_forest", "grafted": "forest thing other_forest", "part": "forest thing",
        "without": "forest thing", "told_ahead": "forest thing other",
    },
    texts: {
        "format_forest": "forest", "format_sequence": "order", "format_stages": "free_stages",
        "parse_forest": "forest_text", "parse_sequence": "sequence_text", "parse_stages": "stages_text",
    },
}
CALLS = [(all_of if name == "sequences" else getattr(module, name), words.split())
         for module, rows in MODULES.items() for name, words in rows.items()]
LISTS = """sizes depths firsts walk above below held_by place_shares sure_pairs nth_sequence next_sequence sequences
nth_with next_shares turned_counts nth_by_turned sizes_back shapes_with always_ahead
parse_sequence parse_stages""".split()
INTEGERS = """count_sequences sequence_index count_with last_count turned_pairs drop_sum most_turned
turned_index count_shapes count_forests""".split()
KINDS = {**{name: list for name in LISTS}, **{name: int for name in INTEGERS}, "is_sequence": bool,
         "stage_fault": type(None), "are_alike": bool, "same_number": bool,
         "format_forest": str, "format_sequence": str, "format_stages": str}
# What is returned for GOOD and for OTHER_GOOD where None is among it.
SOME_NONE = {"parting_size": [None, 1], "told_ahead": [None, None]}
LIST_WORDS = ["sequence", "stages", "ends", "counts", "sizes", "told", "order", "free_stages"]
# How many indexes there are with the other arguments of GOOD.
INDEXES = {"nth_sequence": 15, "nth_with": 4, "nth_by_turned": 3, "nth_forest": 4}

# What is wrong without a forest.
ORDERS = [[0], [1, 0, 2, 3, 4], [0, 3, 1, 2, 4], [4, 2, 0, 1, 3], [0, 4, 1, 3, 2, 5]]
NO_ORDER = [value for value in NO_SEQUENCE if value not in ORDERS] + [[1], [0, 2], [2, 0, 3], [0, 1, 1]]
NO_FREE_STAGES = [value for value in NO_STAGES if value not in ([(5,)], [(0, 5)], [(0, 1, 2, 3, 4, 5)])]
NO_FREE_STAGES += [[(60,)], [(0, 60)], [(59, 60)], [(0,), (60,)], [(59,), (59,)]]
BAD = {"forest": NO_FOREST, "other_forest": NO_FOREST, "counts": NO_COUNTS, "many_things": NO_INDEX + [0, 61, 62, 300],
       "sizes": NO_SIZES, "told": NO_TOLD, "thing": NO_INDEX + [5, 6], "other": NO_INDEX + [5, 6],
       "many": NO_INDEX + [6, 7], "place": NO_INDEX + [5, 6], "other_place": NO_INDEX + [5, 6],
       "index": NO_INDEX + [15, 16],
       "turned": NO_INDEX + [7, 8], "sequence": NO_SEQUENCE, "stages": NO_STAGES, "ends": NO_ENDS, "order": NO_ORDER,
       "free_stages": NO_FREE_STAGES, "forest_text": NO_FOREST_TEXT, "sequence_text": NO_SEQUENCE_TEXT,
       "stages_text": NO_STAGES_TEXT}


def arguments_with(words, changed):
    return [changed.get(word, GOOD[word]) for word in words]


def called(words):
    """The names of the parameters."""
    return [CALLED.get(word, word) for word in words]


def named_by(words, values):
    """The arguments by the names of their parameters, the last one first."""
    return dict(list(zip(called(words), values))[::-1])


class Arguments(Cases):
    def test_calls_without_an_error(self):
        for function, words in CALLS:
            for good in (GOOD, OTHER_GOOD):
                values = arguments_with(words, good)
                answer = function(*values)
                self.assertEqual(function(**named_by(words, values)), answer)
                self.assertEqual(function(values[0], **named_by(words[1:], values[1:])), answer)
                if function.__name__ not in SOME_NONE:
                    self.assertIs(type(answer), KINDS.get(function.__name__, tuple))
        for name, answers in SOME_NONE.items():
            function, words = [row for row in CALLS if row[0].__name__ == name][0]
            found = [function(*arguments_with(words, good)) for good in (GOOD, OTHER_GOOD)]
            self.assertEqual(found, answers)

    def test_all_functions_are_here(self):
        self.assertEqual({name for rows in MODULES.values() for words in rows.values() for name in words.split()},
                         set(GOOD))
        self.assertEqual([len(rows) for rows in MODULES.values()], [7, 6, 10, 6, 6, 8, 5, 5, 6])

    def test_ends_of_the_ranges(self):
        ends = {"thing": (0, 4), "other": (0, 4), "place": (0, 4), "other_place": (0, 4), "many": (0, 5),
                "many_things": (1, 60)}
        for function, words in CALLS:
            for word in [word for word in words if word in ends]:
                for end in ends[word]:
                    values = arguments_with(words, {word: end})
                    if function is changes.told_ahead and (word, end) == ("thing", 4):
                        # The only one of these calls that asks for what there is not.
                        self.assert_due(function, called(words), values, NoForest)
                    elif word != "other" or end != GOOD["thing"]:
                        function(*values)

    def test_ends_of_the_indexes(self):
        for function, words in CALLS:
            if "index" in words:
                many = INDEXES[function.__name__]
                for index in range(many):
                    function(*arguments_with(words, {"index": index}))
                for index in (-1, many, many + 1):
                    self.assert_due(function, called(words), arguments_with(words, {"index": index}), InvalidIndex)
        words = ["forest", "turned", "index"]
        for number, many in enumerate([1, 2, 3, 3, 3, 2, 1]):
            turned.nth_by_turned(FOREST, number, many - 1)
            self.assert_due(turned.nth_by_turned, words, [FOREST, number, many], InvalidIndex)

    def test_one_wrong_argument(self):
        for function, words in CALLS:
            for word in [word for word in words if word != "value"]:
                for value in BAD[word]:
                    self.assert_due(function, called(words), arguments_with(words, {word: value}), RAISED[word])

    def test_any_value_is_a_sequence_or_not(self):
        for value in NO_SEQUENCE:
            self.assertIs(sequences.is_sequence(FOREST, value), False)
            self.assertIs(sequences.is_sequence(value=value, forest=FOREST), False)

    def test_the_ranges_go_by_the_forest(self):
        # With two things: the first value that there is not.
        least_bad = {"thing": 2, "other": 2, "place": 2, "other_place": 2, "many": 3, "index": 1, "turned": 1,
                     "sequence": [0, 1, 2], "stages": [(0,), (1, 2)], "ends": [2]}
        good = {"forest": (None, 0), "thing": 0, "other": 1, "place": 0, "other_place": 1, "many": 2, "index": 0,
                "turned": 0, "sequence": [0, 1], "stages": [(0,), (1,)], "ends": [1], "value": [0, 1],
                "told": [[0], [0]]}
        for function, words in CALLS:
            function(*arguments_with(words, good))
            for word in [word for word in words if word in least_bad]:
                values = arguments_with(words, {**good, word: least_bad[word]})
                self.assert_due(function, called(words), values, RAISED[word])

    def test_several_wrong_arguments(self):
        some = {"forest": [FOREST, None, (1, 0), list(FOREST)], "thing": [3, 5, True], "other": [1, -1, "1"],
                "many": [5, 6, False], "place": [4, 5, None], "other_place": [0, 5, (0,)], "index": [2, -1, 15, "2"],
                "sequence": [GOOD["sequence"], None, [1, 0, 2, 3, 4]], "stages": [GOOD["stages"], [()], None],
                "ends": [GOOD["ends"], (3, 2), [3, 3]], "turned": [2, 7, True, None], "value": [GOOD["value"]],
                "other_forest": [FOREST, None, (1, 0), [None]], "counts": [GOOD["counts"], None, [], [1, True]],
                "many_things": [5, 0, 61, True], "sizes": [GOOD["sizes"], [0], None],
                "told": [GOOD["told"], None, [[]], [[0, 1], [0]]],
                "order": [GOOD["order"], [1, 2], None], "free_stages": [GOOD["free_stages"], [()], None],
                "forest_text": [GOOD["forest_text"], "0", None], "sequence_text": [GOOD["sequence_text"], "1", None],
                "stages_text": [GOOD["stages_text"], "4 0", None]}
        for function, words in CALLS:
            for values in product(*[some[word] for word in words]):
                wrong = [word for word, value in zip(words, values) if value is not some[word][0]]
                if wrong:
                    self.assert_due(function, called(words), list(values), RAISED[wrong[0]])

    def test_any_value_comes_behind_the_forest(self):
        for forest in NO_FOREST:
            for value in ([], None, [0, 1], FOREST):
                self.assert_due(sequences.is_sequence, ["forest", "value"], [forest, value], InvalidForest)


class Conditions(Cases):
    def test_same_thing(self):
        self.assertEqual(sum("other" in words for _, words in CALLS), 5)
        for function, words in CALLS:
            if "other" in words:
                for thing in range(5):
                    same = arguments_with(words, {"thing": thing, "other": thing})
                    self.assert_due(function, called(words), same, SameThing)
        words = ["forest", "thing", "place", "other", "other_place"]
        same_places = arguments_with(words, {"thing": 1, "place": 0})
        self.assert_due(shares.places_share, words, same_places, SameThing)
        # In a forest of one thing there is no other one.
        words = ["forest", "thing", "other"]
        self.assert_due(shares.ahead_share, words, [(None,), 0, 0], SameThing)
        self.assert_due(shares.ahead_share, words, [(None,), 0, 1], InvalidThing)

    def test_same_thing_comes_last(self):
        words = ["forest", "thing", "place", "other", "other_place"]
        cases = [({"other": True}, InvalidThing), ({"place": 5}, InvalidPlace), ({"other_place": -1}, InvalidPlace),
                 ({"forest": ()}, InvalidForest), ({"forest": (None,)}, InvalidThing)]
        for changed, kind in cases:
            values = arguments_with(words, {"thing": 1, "other": 1, **changed})
            self.assert_due(shares.places_share, words, values, kind)
        for function in (shares.ahead_share, shares.next_to_share, shares.mean_distance, changes.told_ahead):
            for values, kind in [([FOREST, 5, 5], InvalidThing), ([FOREST, True, True], InvalidThing),
                                 ([FOREST, 1, True], InvalidThing), ([FOREST, 0, 0.0], InvalidThing),
                                 ([None, 1, 1], InvalidForest)]:
                self.assert_due(function, ["forest", "thing", "other"], values, kind)

    def test_no_forest_comes_last(self):
        words = ["forest", "thing", "other"]
        for thing, other in [(4, 1), (4, 3), (2, 3)]:
            self.assert_due(changes.told_ahead, words, [FOREST, thing, other], NoForest)
            self.assert_due(changes.told_ahead, words, [FOREST, other, other], SameThing)
            self.assert_due(changes.told_ahead, words, [list(FOREST), thing, other], InvalidForest)
            for wrong in NO_INDEX + [5]:
                self.assert_due(changes.told_ahead, words, [FOREST, wrong, other], InvalidThing)
                self.assert_due(changes.told_ahead, words, [FOREST, thing, wrong], InvalidThing)
                self.assert_due(changes.told_ahead, words, [FOREST, wrong, wrong], InvalidThing)
        for thing, other in [(1, 4), (0, 3), (3, 0), (3, 2)]:
            changes.told_ahead(FOREST, thing, other)

    def test_only_thing_comes_last(self):
        words = ["forest", "thing"]
        self.assert_due(changes.without, words, [(None,), 0], OnlyThing)
        for wrong in NO_INDEX + [1]:
            self.assert_due(changes.without, words, [(None,), wrong], InvalidThing)
        self.assert_due(changes.without, words, [[None], 0], InvalidForest)
        self.assert_due(changes.without, words, [(0,), 0], InvalidForest)
        self.assertEqual(changes.without((None, None), 0), (None,))

    def test_counts_ahead_of_many(self):
        words = ["counts", "many"]
        for counts in ([], None, (1,), [True]):
            for many in (5, 0, 61, None, True, "5"):
                self.assert_due(alike.sizes_back, words, [counts, many], InvalidCounts)
        # Where the answer would be None, a wrong number is an error all the same.
        for counts in ([0], [1, 0], [2, 2], [1, -1]):
            for many in (0, 61, True, None, "5"):
                self.assert_due(alike.sizes_back, words, [counts, many], InvalidNumber)
            self.assertIs(alike.sizes_back(counts, 60), None)

    def test_no_sequence(self):
        for faulty in ([(1,)], [(3, 4)], [(0,), (3,)], [(0, 3)], [(1,), (0,)], [(4,), (1, 2, 3), (0,)]):
            self.assert_due(stages.next_shares, ["forest", "stages"], [FOREST, faulty], NoSequence)
            # Whatever the index is: this comes ahead of it.
            for index in [0, 1, 15] + NO_INDEX:
                self.assert_due(stages.nth_with, ["forest", "stages", "index"], [FOREST, faulty, index], NoSequence)
            self.assertEqual([stages.count_with(FOREST, faulty), stages.share_with(FOREST, faulty)], [0, (0, 1)])

    def test_no_sequence_comes_behind_the_stages(self):
        for wrong in ([(1,), ()], [(1,), (1,)], [(3, 1)], [(3, 5)], ((1,),)):
            self.assert_due(stages.next_shares, ["forest", "stages"], [FOREST, wrong], InvalidStages)
            for index in (0, -1, None):
                self.assert_due(stages.nth_with, ["forest", "stages", "index"], [FOREST, wrong, index], InvalidStages)
                self.assert_due(stages.nth_with, ["forest", "stages", "index"], [None, [(1,)], index], InvalidForest)


class Values(Cases):
    def test_returned_lists_are_new(self):
        for function, words in CALLS:
            if function.__name__ in LISTS:
                for number in range(5):
                    # With several things and several indexes.
                    values = arguments_with(words, {"thing": number, "index": number % 3})
                    first = function(*values)
                    kept = deepcopy(first)
                    second = function(*values)
                    self.assertIsNot(first, second)
                    for inner in first:
                        if isinstance(inner, list):
                            inner.append("more")
                    first.append("more")
                    first.reverse()
                    self.assertEqual(second, kept)
                    self.assertEqual(function(*values), kept)

    def test_returned_lists_are_no_arguments(self):
        for stages_of_all in ([(0, 4), (1,)], [(0,), (1,), (2,), (3,), (4,)], []):
            given = list(stages_of_all)
            found = stages.nth_with(FOREST, given, 0)
            given.clear()
            self.assertEqual(len(found), 5)
        given = [0, 4, 1, 3, 2]
        found = sequences.next_sequence(FOREST, given)
        given.clear()
        self.assertEqual(found, [0, 4, 2, 1, 3])

    def test_arguments_do_not_change(self):
        for function, words in CALLS:
            values = deepcopy(arguments_with(words, {}))
            kept = deepcopy(values)
            answer = deepcopy(function(*values))
            self.assertEqual(values, kept)
            # What is done to an argument behind the call does not count either.
            for value in values:
                if isinstance(value, list):
                    value.clear()
            self.assertEqual(function(*kept), answer)

    def test_wrong_arguments_do_not_change(self):
        wrong = [None, 0, [0]]
        self.assertIs(forests.is_forest(wrong), False)
        with self.assertRaises(InvalidForest):
            forests.walk(wrong)
        self.assertEqual(wrong, [None, 0, [0]])
        for function, words in CALLS:
            for word in [word for word in words if word in LIST_WORDS]:
                for value in [value for value in BAD[word] if isinstance(value, list)]:
                    kept = list(value)
                    with self.assertRaises(RAISED[word]):
                        function(*arguments_with(words, {word: value}))
                    self.assertEqual(value, kept)

    def test_results_stay_the_same(self):
        for function, words in CALLS:
            values = arguments_with(words, {})
            before = function(*values)
            for other, other_words in CALLS:
                other(*arguments_with(other_words, OTHER_GOOD))
            self.assertEqual(function(*values), before)

    def test_each_is_defined_where_the_interface_lists_it(self):
        for module, rows in MODULES.items():
            for name in list(rows) + (["is_forest"] if module is forests else []):
                self.assertEqual(getattr(module, name).__module__, module.__name__)
                self.assertEqual(getattr(module, name).__name__, name)


if __name__ == "__main__":
    unittest.main()
