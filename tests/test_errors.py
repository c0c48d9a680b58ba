"""The error classes of heldbehind/errors.py: points [2] and [3] and the interface."""

import unittest

from heldbehind import errors
from heldbehind.errors import HolderError

PLAIN = """InvalidForest InvalidThing InvalidIndex InvalidSequence InvalidNumber InvalidPlace
InvalidStages InvalidEnds InvalidCounts InvalidSizes InvalidTold InvalidText InvalidChange
SameThing NoSequence NoForest OnlyThing NotAForest NotAFraction DoneAlready NothingToUndo""".split()
WITH_ATTRIBUTE = {"NotReady": "thing", "Turned": "thing", "TooMany": "count"}
ALL = PLAIN + list(WITH_ATTRIBUTE)


def made(name):
    return getattr(errors, name)(3) if name in WITH_ATTRIBUTE else getattr(errors, name)()


class Errors(unittest.TestCase):
    def test_there_are_these_and_no_others(self):
        there = [name for name, value in vars(errors).items() if isinstance(value, type)]
        self.assertEqual(sorted(there), sorted(ALL + ["HolderError"]))
        self.assertEqual(len(ALL), 24)

    def test_they_are_defined_in_this_file(self):
        for name in ALL + ["HolderError"]:
            self.assertEqual(getattr(errors, name).__module__, "heldbehind.errors")

    def test_each_is_a_holder_error_and_a_value_error(self):
        self.assertTrue(issubclass(HolderError, ValueError))
        for name in ALL:
            error = made(name)
            self.assertIsInstance(error, HolderError)
            self.assertIsInstance(error, ValueError)
            with self.assertRaises(getattr(errors, name)):
                raise error

    def test_none_but_the_base_is_a_superclass_of_another_one(self):
        for name in ALL:
            for other in ALL:
                if name != other:
                    self.assertFalse(issubclass(getattr(errors, name), getattr(errors, other)), (name, other))
            self.assertFalse(issubclass(HolderError, getattr(errors, name)))

    def test_attributes_are_set_on_each_object(self):
        for name, attribute in WITH_ATTRIBUTE.items():
            kind = getattr(errors, name)
            low, high = kind(0), kind(59)
            self.assertEqual([getattr(low, attribute), getattr(high, attribute)], [0, 59])
            self.assertEqual(getattr(kind(**{attribute: 7}), attribute), 7)

    def test_attributes_are_asked_for(self):
        for name in WITH_ATTRIBUTE:
            with self.assertRaises(TypeError):
                getattr(errors, name)()


if __name__ == "__main__":
    unittest.main()
