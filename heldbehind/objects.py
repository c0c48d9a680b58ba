"""Forests and shares as objects that never change."""

from heldbehind.changes import beside
from heldbehind.errors import InvalidNumber, NotAForest, NotAFraction
from heldbehind.forests import check_forest
from heldbehind.integers import is_integer, lowest
from heldbehind.sequences import count_sequences, is_sequence, nth_sequence


class Forest:
    """A forest; called with an index, it is the sequence with this index."""

    def __init__(self, forest):
        check_forest(forest)
        self._holders = forest

    def __call__(self, index):
        """The sequence with an index."""
        return nth_sequence(self._holders, index)

    def __add__(self, other):
        """The forest of both."""
        if not isinstance(other, Forest):
            raise NotAForest()
        return Forest(beside(self._holders, other.holders))

    def __eq__(self, other):
        """Whether both are Forest objects with equal forests."""
        return isinstance(other, Forest) and self._holders == other._holders

    def __len__(self):
        """The number of the things."""
        return len(self._holders)

    def __contains__(self, value):
        """Whether any value is a sequence of the forest."""
        return is_sequence(self._holders, value)

    @property
    def holders(self):
        """The forest as a tuple."""
        return self._holders

    @property
    def number(self):
        """The number of the sequences."""
        return count_sequences(self._holders)


class Fraction:
    """A share."""

    def __init__(self, top, bottom):
        if not is_integer(top) or not is_integer(bottom) or bottom < 1:
            raise InvalidNumber()
        self._pair = lowest(top, bottom)

    def __add__(self, other):
        """The sum of both."""
        if not isinstance(other, Fraction):
            raise NotAFraction()
        top, bottom = self._pair
        other_top, other_bottom = other.pair
        return Fraction(top * other_bottom + other_top * bottom, bottom * other_bottom)

    def __mul__(self, other):
        """The product of both."""
        if not isinstance(other, Fraction):
            raise NotAFraction()
        top, bottom = self._pair
        other_top, other_bottom = other.pair
        return Fraction(top * other_top, bottom * other_bottom)

    def __eq__(self, other):
        """Whether both are Fraction objects of one share."""
        return isinstance(other, Fraction) and self._pair == other._pair

    @property
    def pair(self):
        """The tuple (top, bottom) in lowest terms."""
        return self._pair
