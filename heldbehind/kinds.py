"""Lists that are worked off in ascending order, or only up to a bound."""

from heldbehind.errors import InvalidNumber, TooMany, Turned
from heldbehind.forests import walk
from heldbehind.integers import is_integer
from heldbehind.live import LiveList


class OrderedList(LiveList):
    """A LiveList in which the numbers of the things that are done only rise."""

    def told_words(self):
        """Those of a LiveList, and one for the order."""
        return super().told_words() + ["ordered"]

    def check_next(self, things):
        """Raise an error unless these things can be done, and in ascending order."""
        super().check_next(things)
        order = walk(self._forest)
        greatest = max([order.index(thing) for thing in self._done], default=-1)
        # Those done by one call have rising numbers, as each of them holds the next one.
        for thing in things:
            if order.index(thing) < greatest:
                raise Turned(thing)


class BoundedList(LiveList):
    """A LiveList of which at most so many things are done."""

    def __init__(self, forest, most=30):
        super().__init__(forest)
        if not is_integer(most) or most < 0:
            raise InvalidNumber()
        self._most = most

    def told_words(self):
        """Those of the kind above, and one for the bound."""
        return super().told_words() + [f"most {self._most}"]

    def check_next(self, things):
        """Raise an error unless these things can be done, and are not too many."""
        super().check_next(things)
        many = len(self._done) + len(things)
        if many > self._most:
            raise TooMany(many)


# In this order of the bases the bound comes behind the order, in the words and in the errors.
class OrderedBoundedList(BoundedList, OrderedList):
    """A LiveList in ascending order of which at most so many things are done."""
