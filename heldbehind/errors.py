"""The errors of the package, all of them of the kind HolderError."""


class HolderError(ValueError):
    """The base class of all errors of the package."""


class InvalidForest(HolderError):
    """A value is not a forest."""


class InvalidThing(HolderError):
    """A value is not the index of a thing."""


class InvalidIndex(HolderError):
    """A value is not the index of one of those that are numbered."""


class InvalidSequence(HolderError):
    """A value is not a sequence."""


class InvalidNumber(HolderError):
    """A value is not an integer in the range that is asked for."""


class InvalidPlace(HolderError):
    """A value is not a place of a sequence."""


class InvalidStages(HolderError):
    """A value is not a list of stages."""


class InvalidEnds(HolderError):
    """A value is not a list of different things."""


class InvalidCounts(HolderError):
    """A value is not a non-empty list of integers."""


class InvalidSizes(HolderError):
    """A value is not a non-empty list of integers from 1 to its length."""


class InvalidTold(HolderError):
    """A value is not a list of told sequences."""


class InvalidText(HolderError):
    """A value is not the text of what is to be read."""


class InvalidChange(HolderError):
    """A value is not a change of a live list."""


class SameThing(HolderError):
    """Two things that have to be different are one."""


class NoSequence(HolderError):
    """No sequence keeps the stages."""


class NoForest(HolderError):
    """No forest has just the sequences that are asked for."""


class OnlyThing(HolderError):
    """The only thing of a forest cannot be left out."""


class NotAForest(HolderError):
    """The right operand is not a Forest object."""


class NotAFraction(HolderError):
    """The right operand is not a Fraction object."""


class DoneAlready(HolderError):
    """The thing is done already."""


class NothingToUndo(HolderError):
    """There is no call to take back."""


class NotReady(HolderError):
    """A thing cannot be done: `thing`, its holder, is not done."""

    def __init__(self, thing):
        super().__init__("the holder of the thing is not done")
        self.thing = thing


class Turned(HolderError):
    """`thing` would be done behind one with a greater number."""

    def __init__(self, thing):
        super().__init__("the thing would stand behind one with a greater number")
        self.thing = thing


class TooMany(HolderError):
    """`count` things would be done, more than the bound lets."""

    def __init__(self, count):
        super().__init__("more things would be done than the bound lets")
        self.count = count
