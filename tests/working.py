"""A live list as the tests understand it: it looks all up in the list of all sequences of a small forest."""

from counting import all_sequences, is_above, walk_by_calls
from heldbehind.errors import (DoneAlready, HolderError, InvalidChange, InvalidThing, NotReady, NothingToUndo,
                               TooMany, Turned)
from heldbehind.kinds import BoundedList, OrderedBoundedList, OrderedList
from heldbehind.live import LiveList

# The classes, each with whether it is ordered and whether it is bounded.
CLASSES = {LiveList: (False, False), OrderedList: (True, False), BoundedList: (False, True),
           OrderedBoundedList: (True, True)}


class Due(Exception):
    """The error that is due, with its value."""


class ByHand:
    def __init__(self, forest, kind, most=30):
        self.forest, self.most = forest, most
        self.ordered, self.bounded = CLASSES[kind]
        self.all = all_sequences(forest)
        self.walk = walk_by_calls(forest)
        # The calls that can be taken back: their words, and what they did.
        self.calls = []

    def copy(self):
        other = ByHand.__new__(ByHand)
        other.__dict__.update(self.__dict__, calls=list(self.calls))
        return other

    def done(self):
        return [thing for _, things in self.calls for thing in things]

    def begun(self):
        """The sequences that begin so."""
        done = self.done()
        return [one for one in self.all if one[:len(done)] == done]

    def ready(self):
        at = len(self.done())
        return sorted({one[at] for one in self.begun() if at < len(one)})

    def words(self):
        found = [f"done {len(self.done())}", f"ready {len(self.ready())}"]
        found += ["ordered"] if self.ordered else []
        return found + ([f"most {self.most}"] if self.bounded else [])

    def call(self, word, thing):
        """Make a call, and return what is due to be returned, or raise Due."""
        if type(thing) is not int or not 0 <= thing < len(self.forest):
            raise Due(InvalidThing, None)
        if thing in self.done():
            raise Due(DoneAlready, None)
        things = [thing]
        if word == "do" and thing not in self.ready():
            raise Due(NotReady, self.forest[thing])
        if word == "skip":
            tops = [one for one in range(len(self.forest)) if is_above(self.forest, one, thing)]
            ordered = [one for one in self.all[0] if one in tops]
            things = [one for one in ordered if one not in self.done()] + things
        self.check_bounds(things)
        self.calls.append((word, things))
        return len(self.begun()) if word == "do" else len(things)

    def check_bounds(self, things):
        order = self.done() + things
        if self.ordered:
            for at in range(len(self.done()), len(order)):
                if any(self.walk.index(one) > self.walk.index(order[at]) for one in order[:at]):
                    raise Due(Turned, order[at])
        if self.bounded and len(order) > self.most:
            raise Due(TooMany, len(order))

    def undo(self):
        if not self.calls:
            raise Due(NothingToUndo, None)
        return self.calls.pop()[0]

    def tried(self, changes):
        other = self.copy()
        found = []
        for change in changes:
            if type(change) is not tuple or len(change) != 2 or change[0] not in ("do", "skip"):
                raise Due(InvalidChange, None)
            found.append(other.call(*change))
        return found


def outcome(function, *values):
    """What a call returns, or the class of its error with its attribute."""
    try:
        return function(*values)
    except Due as due:
        return due.args
    except HolderError as error:
        return (type(error), getattr(error, "thing", getattr(error, "count", None)))


def shown(live):
    return [live.done, live.ready, live.left, len(live), live.told_words()]


def shown_by_hand(by_hand):
    return [tuple(by_hand.done()), tuple(by_hand.ready()), len(by_hand.begun()), len(by_hand.calls), by_hand.words()]


def made(kind, forest, most=None):
    return kind(forest) if most is None else kind(forest, most)
