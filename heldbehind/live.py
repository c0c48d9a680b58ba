"""Lists that are worked off: which things of a forest are done, and which can be next."""

from heldbehind.errors import DoneAlready, InvalidChange, NotReady, NothingToUndo
from heldbehind.forests import above, check_forest, check_thing, is_forest
from heldbehind.left import can_be_next
from heldbehind.stages import count_with
from heldbehind.texts import parse_forest


class LiveList:
    """A forest and the things of it that are done, in their sequence."""

    EMPTY = ()

    def __init__(self, forest):
        check_forest(forest)
        self._forest = forest
        # Both are tuples, which never change: whoever keeps them can put them back.
        self._done = self.EMPTY
        # For each call that can be taken back its word and how many things it did.
        self._calls = self.EMPTY

    @classmethod
    def read(cls, forest_text):
        """An object of this class for the forest that a text is written for."""
        return cls(parse_forest(forest_text))

    @staticmethod
    def is_valid(value):
        """Whether any value is a forest."""
        return is_forest(value)

    def do(self, thing):
        """Do a thing that can be next, and return the number of sequences that are left."""
        check_thing(self._forest, thing)
        self._do_all("do", [thing])
        return self.left

    def skip_to(self, thing):
        """Do what is above a thing and not done, then the thing, and return how many these are."""
        way_down = above(self._forest, thing)[::-1]
        things = [one for one in way_down if one not in self._done] + [thing]
        self._do_all("skip", things)
        return len(things)

    def undo(self):
        """Take back the latest call, and return its word."""
        if len(self._calls) == 0:
            raise NothingToUndo()
        word, many = self._calls[-1]
        self._calls = self._calls[:-1]
        self._done = self._done[:len(self._done) - many]
        return word

    def try_changes(self, *changes):
        """The list of what these changes would return, one behind the other."""
        done = self._done
        calls = self._calls
        try:
            return [self._make(change) for change in changes]
        finally:
            self._done = done
            self._calls = calls

    def told_words(self):
        """The list of how many things are done and how many can be next, in words."""
        return [f"done {len(self._done)}", f"ready {len(self.ready)}"]

    def check_next(self, things):
        """Raise an error unless these things can be done one behind the other.

        They are a thing, and ahead of it perhaps those above it that are not
        done. Each class below adds its own errors behind these.
        """
        if things[-1] in self._done:
            raise DoneAlready()
        holder = self._forest[things[0]]
        if holder is not None and holder not in self._done:
            raise NotReady(holder)

    def __len__(self):
        """The number of the calls that can be taken back."""
        return len(self._calls)

    @property
    def done(self):
        """The tuple of the things that are done, in their sequence."""
        return self._done

    @property
    def ready(self):
        """The ascending tuple of the things that can be next."""
        rest = [thing for thing in range(len(self._forest)) if thing not in self._done]
        return tuple(can_be_next(self._forest, rest))

    @property
    def left(self):
        """The number of the sequences that begin so."""
        return count_with(self._forest, [(thing,) for thing in self._done])

    def _do_all(self, word, things):
        """Do things one behind the other as one call, or none of them."""
        self.check_next(things)
        self._done = self._done + tuple(things)
        self._calls = self._calls + ((word, len(things)),)

    def _make(self, change):
        """Make a change, and return what the call returns."""
        if not isinstance(change, tuple) or len(change) != 2 or change[0] not in ("do", "skip"):
            raise InvalidChange()
        word, thing = change
        return self.do(thing) if word == "do" else self.skip_to(thing)
