"""Values that are not what an argument has to be, and a check of the error that is due for them."""

import unittest

from heldbehind import errors
from heldbehind.errors import HolderError

FOREST = (None, 0, 0, 1, None)

NO_INDEX = [None, True, False, -1, -5, 10 ** 99, -10 ** 99, "", "3", b"3", 1.0, [], [3], (), (3,), {}, {3: 3}, {3},
            object(), FOREST]
NO_FOREST = [None, True, False, 0, 7, "", "- 0 0", b"-", 0.5, [], list(FOREST), {}, dict(enumerate(FOREST)), {None},
             object(), (), (0,), (1, 0), (None, 1), (None, 0, 2, 0, 0), (None, 2, 3, 1, 0), (1, 2, 3, 4, 0), (None, -1),
             (None, 0, 0, 1, -1), (None, 0, 0, 1, 5), (None, 0, 0, 1, 10 ** 99), (None, False, 0, 1, None),
             (None, 0, 0, True, None), (None, "0"), (None, 0.0), (None, (0,)), ("-", "0"), [None, 0, 0, 1, None]]
NO_LIST = [None, True, False, 0, 3, -1, 10 ** 99, "", "0", "01234", "0 > 1", b"\x00\x01", 1.0, (), {}, {0: 1}, {0, 4},
           range(5), object(), FOREST]
NO_SEQUENCE = NO_LIST + [(0, 4, 1, 3, 2), [], [0], [0, 4, 1, 3], [0, 4, 1, 3, 2, 2], [0, 4, 1, 3, 2, 5],
                         [0, 4, 1, 3, 3], [0, 0, 1, 3, 2], [1, 0, 2, 3, 4], [0, 3, 1, 2, 4], [4, 2, 0, 1, 3],
                         [0, True, 2, 3, 4], [False, 1, 2, 3, 4], [0, 1.0, 2, 3, 4], [0, 1, 2, 3, "4"],
                         [0, 1, 2, 3, None], [0, 1, 2, 3, 5], [0, 1, 2, 3, -1], [0, 1, 2, 3, 10 ** 99],
                         [0, 1, 2, 3, [4]], [[0, 1, 2, 3, 4]], [(0, 1, 2, 3, 4)], [0, 1, 2, {}, 4]]
NO_STAGES = NO_LIST + [((0, 4), (1,)), (0, 4), [[0, 4], [1]], [(0, 4), [1]], [[0], (4,)], [()], [(0,), ()], [(), (0,)],
                       [(4, 0)], [(0,), (2, 1)], [(0, 0)], [(0, 2, 1)], [(0,), (0,)], [(0, 4), (1, 4)],
                       [(0,), (1,), (0, 2)], [(5,)], [(0, 5)], [(-1,)], [(-1, 0)], [(10 ** 99,)], [(True,)],
                       [(False,)], [(0, True)], [(False, 1)], [(0, None)], [(None,)], [("0",)], ["0"], [0], [None],
                       [0, 4], [(0.0,)], [(0, 1.0)], [{0}], [{0: 4}], [((0,),)], [([0],)], [(0, {})], [range(2)],
                       [(0, 1, 2, 3, 4, 5)], [(0,), True], [(0, "1")], [(0, object())]]
NO_ENDS = NO_LIST + [(3, 2), (3,), [3, 3], [3, 2, 3], [5], [3, 5], [-1], [3, -1], [10 ** 99], [True], [False],
                     [3, True], [0, False], ["3"], [3.0], [None], [(3,)], [[3]], [{}], [3, {3}], [object()],
                     [0, 1, 2, 3, 4, 5], [0, 1, 2, 3, 4, 0]]
NO_COUNTS = NO_LIST + [[], [None], [True], [False], [1, True], [1, 2, 3, 3, 3, 2, False], [1.0], ["1"], [1, "2"], [[1]],
                       [(1,)], [1, None], [{}], [1, 2, 3, 3, 3, 2, [1]], (1, 2, 3, 3, 3, 2, 1), [object()]]
NO_SIZES = NO_COUNTS + [[0], [2], [-1], [1, 3], [0, 1], [1, 1, 1, 2, 6], [1, 1, 1, 0, 3], [10 ** 99], [1, 10 ** 99],
                        [1, 1, 1, 2, -3], (1, 1, 1, 2, 3)]
NO_TOLD = NO_LIST + [([0, 1, 2], [0, 2, 1]), [(0, 1, 2), (0, 2, 1)], [], [[]], [[], []], [()], [[0], []], [[0, 1], [0]],
                     [[0, 1, 2], [0, 1]], [[0, 1, 2], [0, 1, 2, 3]], [[0, 0]], [[0, 1, 1]], [[0, 2]], [[1, 2, 3]],
                     [[-1, 0, 1]], [[0, 1, 2], [0, 1, 3]], [[0, 1, 10 ** 99]], [[True, 0]], [[False, 1]],
                     [[0, True, 2]], [[0, 1.0, 2]], [[0, "1", 2]], [[0, None]], [["0"]], ["0"], [0, 1, 2], [None],
                     [[0, 1, 2], None],
                     [[0, 1, 2], (0, 2, 1)], [[0, 1, 2], True], [[0, 1, 2], {0: 0, 1: 1, 2: 2}], [[[0]]], [[(0,)]],
                     [{0, 1}], [range(3)], [[0, {}, 2]]]
# No text at all, and such as is none of a forest, of a sequence or of stages.
NO_TEXT = [None, True, False, 0, 7, -1, 10 ** 99, 1.0, b"-", b"0", b"", [], ["-"], ["0"], (), ("-",), {}, {"-": 0},
           {"-"}, object(), FOREST, [0], (None,), " ", "  ", "\n", "\t", "x", "none", "None", "--", "- -0", "0 1 0",
           "+0", "-0", "00", "01", "0x0", "0.0", "0_0", "1e0", "\u0660", "\uff10", "\u00b2", "\u2212", "0\n", "\n0",
           " 0", "0 ", "0\t", "0\u00a01", "0,1", "0;1", "0 >", "> 0", "0 |", "| 0", "0>1", "0|1", "0  1", "0 > > 1",
           "0 | | 1", "9" * 4000, "0 " * 2000, "-" * 4000, "\x00", "0\r\n1", "(0)", "[0]", "[]", "()", "'0'", "60 60",
           "-1"]
NO_FOREST_TEXT = NO_TEXT + ["", "0", "1", "1 0", "0 0", "- 1", "- 2", "- 0 0 1 5", "- 0 0 1 -1", "- 2 1", "1 2 0",
                            "- -  0", "-  0", " - 0", "- 0 ", "- 0\n", "\n- 0", "-\t0", "-\n0", "- 00", "- 0 01",
                            "- +0", "- \u0660", "- \uff10", "\u2212 0", "\u2013 0", "- 0\u00a00", "- 0\u20030", "-, 0",
                            "- > 0", "- | 0", "-- 0", "- None", "- 0.", "- 0 0 1 -\r", "- 0\x0b0", "- 0 > 1",
                            "- 0 0 1 - x", "- " + "0" * 3000]
NO_SEQUENCE_TEXT = NO_TEXT + ["", "1", "-", "0 1", "0 > 0", "1 > 2", "0 > 2", "0 > 1 > 1", "0 > -", "0 > -1", "0 > 01",
                              "0 > +1", "00 > 1", "0 >  1", "0  > 1", " 0 > 1", "0 > 1 ", "0 > 1\n", "0 > 1 >",
                              "> 0 > 1", "0 > 1 > ", " > 0 > 1", "0 >\t1", "0\n> 1", "0 > \u0661", "\uff10 > 1",
                              "0 > 1.0", "0 < 1", "0 >> 1", "0\u00a0>\u00a01", "0 > 1 | 2", "1 > 2 > 3", "0 > 1 > 3",
                              "0 > 10"]
NO_STAGES_TEXT = NO_TEXT + ["-", "60", "0 60", "59 60", "100", "-1", "4 0", "0 0", "0 4 | 4", "0 | 0", "1 0 | 2",
                            "0 | ", " | 0", " | ", "|", "0 |  | 1", "0 | | 1", "0 || 1", "0 |1", "0| 1", "0  4",
                            " 0 4", "0 4 ", "0 4\n", "\n0 4", "0\t4", "0 4 |\n1", "00", "0 04", "0 +4", "+0",
                            "0 \u0664", "\uff10 4", "0\u00a04", "0, 4", "0 > 4", "0 4 | 1 |", "| 0 4", "0 4 ; 1",
                            "0 4 / 1", "0 4 | x", "0 4 | -", "0 4 |  1", "0 4  | 1", "4 | 1 0", "0 1 2 | 3 3"]


class Cases(unittest.TestCase):
    def assert_due(self, function, names, values, kind, **attributes):
        """The error is raised by position, by name, and by both, and it is of no other kind.

        `names` are the names of the parameters; `attributes` those of the error with their values.
        """
        for by_position in range(len(names) + 1):
            named = dict(list(zip(names, values))[by_position:][::-1])
            with self.assertRaises(HolderError) as caught:
                function(*values[:by_position], **named)
            self.assert_of_its_own_class(caught.exception, kind)
            self.assertEqual({name: getattr(caught.exception, name) for name in attributes}, attributes)

    def assert_of_its_own_class(self, error, kind):
        self.assertIs(type(error), kind)
        self.assertIsInstance(error, ValueError)
        for name, other in vars(errors).items():
            if isinstance(other, type) and other not in (kind, HolderError):
                self.assertNotIsInstance(error, other, name)
