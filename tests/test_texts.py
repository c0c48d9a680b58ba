"""Texts of forests, sequences and stages: point [23]."""

import unittest
from random import Random

from counting import (EXAMPLE, LARGER, ONE_THING, SIXTY, SMALL, all_sequences, all_tuples, comes_out, mixed_forest,
                      no_holders, random_forest, random_sequence, row)
from heldbehind.errors import InvalidForest, InvalidSequence, InvalidStages, InvalidText
from heldbehind.texts import (format_forest, format_sequence, format_stages, parse_forest, parse_sequence,
                              parse_stages)
from wrong import NO_FOREST_TEXT, NO_SEQUENCE_TEXT, NO_STAGES_TEXT

LARGE = SIXTY + [random_forest(many, many) for many in (41, 57, 59, 60)]
SIGNS = " -|>01234569\n\t+x"


def drawn_stages(seed):
    """Some things from 0 to 59 in stages, some of one thing, some of several."""
    draw = Random(seed)
    things = draw.sample(range(60), draw.choice([1, 2, 5, 30, 59, 60]))
    found = []
    while things:
        many = draw.choice([1, 1, 2, 3, 60])
        found.append(tuple(sorted(things[:many])))
        things = things[many:]
    return found


def changed_texts(text):
    """Texts with one sign more, less or another one."""
    found = [text[:at] + text[at + 1:] for at in range(len(text))]
    found += [text[:at] + sign + text[at:] for at in range(len(text) + 1) for sign in SIGNS]
    return found + [text[:at] + sign + text[at + 1:] for at in range(len(text)) for sign in SIGNS]


class Written(unittest.TestCase):
    def test_by_hand(self):
        self.assertEqual(format_forest(EXAMPLE), "- 0 0 1 -")
        self.assertEqual(format_sequence([0, 4, 1, 3, 2]), "0 > 4 > 1 > 3 > 2")
        self.assertEqual(format_stages([(0, 4), (1,), (2, 3)]), "0 4 | 1 | 2 3")
        self.assertEqual([parse_forest("- 0 0 1 -"), parse_sequence("0 > 4 > 1 > 3 > 2")], [EXAMPLE, [0, 4, 1, 3, 2]])
        self.assertEqual(parse_stages("0 4 | 1 | 2 3"), [(0, 4), (1,), (2, 3)])

    def test_of_one_thing(self):
        self.assertEqual([format_forest(ONE_THING), format_sequence([0]), format_stages([(0,)])], ["-", "0", "0"])
        self.assertEqual([parse_forest("-"), parse_sequence("0"), parse_stages("0")], [ONE_THING, [0], [(0,)]])

    def test_the_empty_text(self):
        self.assertEqual([format_stages([]), parse_stages("")], ["", []])
        for function in (parse_forest, parse_sequence):
            with self.assertRaises(InvalidText):
                function("")

    def test_of_sixty_things(self):
        self.assertEqual(format_forest(row(60)), "- " + " ".join(map(str, range(59))))
        self.assertEqual(format_forest(no_holders(60)), "- " * 59 + "-")
        self.assertEqual(format_sequence(list(range(60))), " > ".join(map(str, range(60))))
        self.assertEqual(format_stages([(thing,) for thing in range(60)]), " | ".join(map(str, range(60))))
        self.assertEqual(format_stages([tuple(range(60))]), " ".join(map(str, range(60))))
        self.assertEqual([format_stages([(59,)]), parse_stages("59")], ["59", [(59,)]])

    def test_forests_and_back(self):
        for forest in SMALL + LARGER + LARGE:
            text = format_forest(forest)
            self.assertEqual(text.split(" "), ["-" if holder is None else str(holder) for holder in forest])
            self.assertEqual(parse_forest(text), forest)
            self.assertIs(type(parse_forest(text)), tuple)

    def test_sequences_and_back(self):
        orders = [one for forest in SMALL + LARGER[:3] for one in all_sequences(forest)]
        orders += [random_sequence(forest, 5) for forest in LARGE]
        for order in orders:
            text = format_sequence(order)
            self.assertEqual([int(word) for word in text.split(" > ")], order)
            self.assertEqual(text.replace(" > ", "").isdigit(), True)
            self.assertEqual(parse_sequence(text), order)

    def test_stages_and_back(self):
        for seed in range(100):
            stages = drawn_stages(seed)
            text = format_stages(stages)
            self.assertEqual([tuple(map(int, words.split(" "))) for words in text.split(" | ")], stages)
            self.assertEqual(parse_stages(text), stages)
            self.assertTrue(all(type(stage) is tuple for stage in parse_stages(text)))

    def test_more_than_sixty_things(self):
        forest = mixed_forest(300)
        self.assertEqual(parse_forest(format_forest(forest)), forest)
        order = random_sequence(forest, 1)
        self.assertEqual(parse_sequence(format_sequence(order)), order)

    def test_by_name(self):
        self.assertEqual([format_forest(forest=(None, 0)), parse_forest(text="- 0")], ["- 0", (None, 0)])
        self.assertEqual([format_sequence(sequence=[1, 0]), parse_sequence(text="1 > 0")], ["1 > 0", [1, 0]])
        self.assertEqual([format_stages(stages=[(1,), (0,)]), parse_stages(text="1 | 0")], ["1 | 0", [(1,), (0,)]])


class Wrong(unittest.TestCase):
    def test_the_right_form_alone(self):
        # All texts of four holders: those of forests are read, the others are no texts.
        for holders in all_tuples(4):
            text = " ".join("-" if holder is None else str(holder) for holder in holders)
            if comes_out(holders):
                self.assertEqual(parse_forest(text), holders)
            else:
                self.assert_no_text(parse_forest, text)

    def assert_no_text(self, function, text):
        with self.assertRaises(InvalidText):
            function(text)
        with self.assertRaises(InvalidText):
            function(text=text)

    def test_values_that_are_no_texts(self):
        for function, values in [(parse_forest, NO_FOREST_TEXT), (parse_sequence, NO_SEQUENCE_TEXT),
                                 (parse_stages, NO_STAGES_TEXT)]:
            for value in values:
                self.assert_no_text(function, value)

    def test_one_sign_more_or_less(self):
        """What is read is written so again: no text but this one is read so."""
        read = 0
        for function, back, texts in [(parse_forest, format_forest, ["- 0 0 1 -", "-", "1 -"]),
                                      (parse_sequence, format_sequence, ["0 > 4 > 1 > 3 > 2", "0", "1 > 0"]),
                                      (parse_stages, format_stages, ["0 4 | 1", "", "12 | 3 45", "59", "6"])]:
            for text in texts:
                for changed in changed_texts(text):
                    try:
                        found = function(changed)
                    except InvalidText:
                        continue
                    read += 1
                    self.assertEqual(back(found), changed)
        self.assertGreater(read, 50)

    def test_each_is_read_where_it_can_be(self):
        """Of all short texts just those are read that something is written as."""
        texts = [""]
        for _ in range(5):
            texts += [text + sign for text in texts for sign in "01- |"]
        texts = sorted(set(texts))
        forests = {format_forest(one) for one in SMALL}
        orders = {"0"}
        stages = {format_stages(one) for one in ([], [(0,)], [(1,)], [(0, 1)], [(0,), (1,)], [(1,), (0,)], [(10,)],
                                                 [(11,)], [(0, 10)], [(0, 11)], [(1, 10)], [(1, 11)], [(10, 11)])}
        for text in texts:
            self.check_read(parse_forest, text, forests)
            self.check_read(parse_sequence, text, orders)
            self.check_read(parse_stages, text, stages)

    def check_read(self, function, text, texts):
        try:
            function(text)
        except InvalidText:
            self.assertNotIn(text, texts)
        else:
            self.assertIn(text, texts)

    def test_stages_without_a_forest(self):
        self.assertEqual(format_stages([(0, 59), (7,)]), "0 59 | 7")
        for stages in ([(60,)], [(0, 60)], [(-1,)], [(0,), (0,)], [(1, 0)], [()], [[0]], ((0,),), [(True,)], [0]):
            with self.assertRaises(InvalidStages):
                format_stages(stages)
        for text in ("60", "0 60", "0 | 60", "61", "100", "0 | 0", "1 0"):
            self.assert_no_text(parse_stages, text)

    def test_sequences_without_a_forest(self):
        self.assertEqual(format_sequence([3, 1, 0, 2]), "3 > 1 > 0 > 2")
        for sequence in ([], [1], [0, 0], [0, 2], [-1, 0], (0, 1), [True, 0], [0, True], "01", [0, 1.0], None, [[0]]):
            with self.assertRaises(InvalidSequence):
                format_sequence(sequence)

    def test_values_that_are_no_forests(self):
        for forest in ((), (0,), [None], None, "-", (None, True), (None, 2), (1, 0)):
            with self.assertRaises(InvalidForest):
                format_forest(forest)

    def test_lists_are_new(self):
        first, second = parse_sequence("1 > 0"), parse_sequence("1 > 0")
        first.append(2)
        self.assertEqual([second, parse_sequence("1 > 0")], [[1, 0], [1, 0]])
        first, second = parse_stages("1 | 0"), parse_stages("1 | 0")
        first.append((2,))
        self.assertEqual([second, parse_stages("1 | 0")], [[(1,), (0,)], [(1,), (0,)]])
        first = parse_stages("")
        first.append((2,))
        self.assertEqual(parse_stages(""), [])


if __name__ == "__main__":
    unittest.main()
