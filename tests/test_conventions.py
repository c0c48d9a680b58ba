"""Points [1], [2] and [3] for each function: wrong arguments, their order, new lists."""

import unittest
from itertools import product

from heldbehind import errors, forests, shares
from heldbehind.errors import (HolderError, InvalidForest, InvalidNumber, InvalidPlace, InvalidThing, SameThing)

FOREST = (None, 0, 0, 1, None)
RAISED = {"forest": InvalidForest, "thing": InvalidThing, "other": InvalidThing, "many": InvalidNumber,
          "place": InvalidPlace, "other_place": InvalidPlace}
GOOD = {"forest": FOREST, "thing": 3, "other": 1, "many": 5, "place": 4, "other_place": 0}

# The functions by module, each with its parameters in their order.
MODULES = {
    forests: {
        "sizes": "forest", "depths": "forest", "firsts": "forest", "walk": "forest",
        "above": "forest thing", "below": "forest thing", "held_by": "forest thing",
    },
    shares: {
        "place_shares": "forest thing", "place_range": "forest thing", "mean_place": "forest thing",
        "first_share": "forest thing many", "last_share": "forest thing", "ahead_share": "forest thing other",
        "next_to_share": "forest thing other", "places_share": "forest thing place other other_place",
        "mean_distance": "forest thing other", "sure_pairs": "forest",
    },
}
CALLS = [(getattr(module, name), words.split()) for module, rows in MODULES.items() for name, words in rows.items()]
LISTS = ["sizes", "depths", "firsts", "walk", "above", "below", "held_by", "place_shares", "sure_pairs"]

NO_INDEX = [None, True, False, -1, -5, 10 ** 99, -10 ** 99, "", "3", b"3", 1.0, [], [3], (), (3,), {}, {3: 3}, {3},
            object(), FOREST]
NO_FOREST = [None, True, False, 0, 7, "", "- 0 0", b"-", 0.5, [], list(FOREST), {}, dict(enumerate(FOREST)), {None},
             object(), (), (0,), (1, 0), (None, 1), (None, 0, 2, 0, 0), (None, 2, 3, 1, 0), (1, 2, 3, 4, 0), (None, -1),
             (None, 0, 0, 1, -1), (None, 0, 0, 1, 5), (None, 0, 0, 1, 10 ** 99), (None, False, 0, 1, None),
             (None, 0, 0, True, None), (None, "0"), (None, 0.0), (None, (0,)), ("-", "0"), [None, 0, 0, 1, None]]
BAD = {"forest": NO_FOREST, "thing": NO_INDEX + [5, 6], "other": NO_INDEX + [5, 6], "many": NO_INDEX + [6, 7],
       "place": NO_INDEX + [5, 6], "other_place": NO_INDEX + [5, 6]}


def arguments_with(words, changes):
    return [changes.get(word, GOOD[word]) for word in words]


class Conventions(unittest.TestCase):
    def assert_due(self, function, words, values, kind):
        """The error is raised by position, by name, and by both, and it is of no other kind."""
        for by_position in (len(words), 0, 1):
            named = dict(list(zip(words, values))[by_position:][::-1])
            with self.assertRaises(HolderError) as caught:
                function(*values[:by_position], **named)
            self.assertIs(type(caught.exception), kind, (function.__name__, values))
            self.assertIsInstance(caught.exception, ValueError)
        for name, other in vars(errors).items():
            if isinstance(other, type) and other not in (kind, HolderError):
                self.assertNotIsInstance(caught.exception, other, name)

    def test_calls_without_an_error(self):
        for function, words in CALLS:
            values = arguments_with(words, {})
            answer = function(*values)
            self.assertEqual(function(**dict(list(zip(words, values))[::-1])), answer)
            self.assertEqual(function(values[0], **dict(zip(words[1:], values[1:]))), answer)
            self.assertIs(type(answer), list if function.__name__ in LISTS else tuple)

    def test_ends_of_the_ranges(self):
        for function, words in CALLS:
            for word in words[1:]:
                for end in (0, 5 if word == "many" else 4):
                    values = arguments_with(words, {word: end})
                    if word != "other" or end != GOOD["thing"]:
                        function(*values)

    def test_one_wrong_argument(self):
        for function, words in CALLS:
            for word in words:
                for value in BAD[word]:
                    self.assert_due(function, words, arguments_with(words, {word: value}), RAISED[word])

    def test_the_ranges_go_by_the_forest(self):
        for function, words in CALLS:
            for word in words[1:]:
                # With two things: the first index, or number, that there is not.
                least_bad = 3 if word == "many" else 2
                changes = {"forest": (None, 0), "thing": 0, "other": 1, "place": 0, "other_place": 1, "many": 2}
                function(*arguments_with(words, changes))
                changes[word] = least_bad
                self.assert_due(function, words, arguments_with(words, changes), RAISED[word])

    def test_several_wrong_arguments(self):
        some = {"forest": [FOREST, None, (1, 0), list(FOREST)], "thing": [3, 5, True], "other": [1, -1, "1"],
                "many": [5, 6, False], "place": [4, 5, None], "other_place": [0, 5, (0,)]}
        for function, words in CALLS:
            for values in product(*[some[word] for word in words]):
                wrong = [word for word, value in zip(words, values) if value is not some[word][0]]
                if wrong:
                    self.assert_due(function, words, list(values), RAISED[wrong[0]])

    def test_same_thing(self):
        for function, words in CALLS:
            if "other" in words:
                for thing in range(5):
                    same = arguments_with(words, {"thing": thing, "other": thing})
                    self.assert_due(function, words, same, SameThing)
        words = ["forest", "thing", "place", "other", "other_place"]
        same_places = arguments_with(words, {"thing": 1, "place": 0})
        self.assert_due(shares.places_share, words, same_places, SameThing)
        # In a forest of one thing there is no other one.
        words = ["forest", "thing", "other"]
        self.assert_due(shares.ahead_share, words, [(None,), 0, 0], SameThing)
        self.assert_due(shares.ahead_share, words, [(None,), 0, 1], InvalidThing)

    def test_same_thing_comes_last(self):
        words = ["forest", "thing", "place", "other", "other_place"]
        cases = [({"other": True}, InvalidThing), ({"place": 5}, InvalidPlace), ({"other_place": -1}, InvalidPlace),
                 ({"forest": ()}, InvalidForest), ({"forest": (None,)}, InvalidThing)]
        for changes, kind in cases:
            values = arguments_with(words, {"thing": 1, "other": 1, **changes})
            self.assert_due(shares.places_share, words, values, kind)
        for function in (shares.ahead_share, shares.next_to_share, shares.mean_distance):
            for values, kind in [([FOREST, 5, 5], InvalidThing), ([FOREST, True, True], InvalidThing),
                                 ([FOREST, 1, True], InvalidThing), ([FOREST, 0, 0.0], InvalidThing),
                                 ([None, 1, 1], InvalidForest)]:
                self.assert_due(function, ["forest", "thing", "other"], values, kind)

    def test_returned_lists_are_new(self):
        for function, words in CALLS:
            if function.__name__ in LISTS:
                for thing in range(5):
                    values = arguments_with(words, {"thing": thing})
                    first = function(*values)
                    kept = list(first)
                    second = function(*values)
                    self.assertIsNot(first, second)
                    first.append("more")
                    first.reverse()
                    self.assertEqual(second, kept)
                    self.assertEqual(function(*values), kept)

    def test_arguments_do_not_change(self):
        for function, words in CALLS:
            forest = tuple(list(FOREST))
            function(*arguments_with(words, {"forest": forest}))
            self.assertEqual(forest, FOREST)
        wrong = [None, 0, [0]]
        self.assertIs(forests.is_forest(wrong), False)
        with self.assertRaises(InvalidForest):
            forests.walk(wrong)
        self.assertEqual(wrong, [None, 0, [0]])

    def test_results_stay_the_same(self):
        for function, words in CALLS:
            values = arguments_with(words, {})
            before = function(*values)
            for other, other_words in CALLS:
                other(*arguments_with(other_words, {"forest": (1, None, 1, 1, 2), "thing": 4}))
            self.assertEqual(function(*values), before)

    def test_each_is_defined_where_the_interface_lists_it(self):
        for module, rows in MODULES.items():
            for name in list(rows) + (["is_forest"] if module is forests else []):
                self.assertEqual(getattr(module, name).__module__, module.__name__)


if __name__ == "__main__":
    unittest.main()
