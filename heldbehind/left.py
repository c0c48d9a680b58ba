"""What is left of a forest behind a beginning, and in how many ways it can go on.

An object of each class here keeps what is left. `next_ways` tells for each
thing that can be next in how many sequences that count it is, `take` takes it.
This is enough to find a sequence by its index, and the index of a sequence.
"""

from heldbehind.brackets import over_bracket, times_bracket
from heldbehind.forests import sizes, walk


def can_be_next(forest, things):
    """The list of those of the things that are left whose holder is not left."""
    return [thing for thing in things if forest[thing] not in things]


def nth_by_ways(left, index):
    """The sequence with an index among those that count."""
    found = []
    while len(left.things) > 0:
        thing, index = _next_for(left.next_ways(), index)
        left.take(thing)
        found.append(thing)
    return found


def index_by_ways(left, sequence):
    """The index of a sequence among those that count."""
    index = 0
    for thing in sequence:
        index = index + sum([ways for other, ways in left.next_ways() if other < thing])
        left.take(thing)
    return index


class AllLeft:
    """What is left, where all sequences count."""

    def __init__(self, forest, many):
        self.forest = forest
        self.size_of = sizes(forest)
        self.things = {thing: True for thing in range(len(forest))}
        self.many = many

    def next_ways(self):
        """The ascending list of the tuples (thing, number of sequences that go on with it)."""
        return [(thing, self.ways_with(thing)) for thing in can_be_next(self.forest, self.things)]

    def ways_with(self, thing):
        """In how many sequences a thing that can be next is next."""
        return self.many * self.size_of[thing] // len(self.things)

    def take(self, thing):
        """Take a thing that can be next."""
        self.many = self.ways_with(thing)
        del self.things[thing]


class TurnedLeft:
    """What is left, where the sequences with just so many turned pairs count."""

    def __init__(self, forest, counts, turned):
        self.forest = forest
        self.size_of = sizes(forest)
        # As in the walk: the index of a thing is the number of those left that it
        # is turned with as soon as it is taken, as they have lesser numbers.
        self.things = {thing: True for thing in walk(forest)}
        self.turned = turned
        # Only the numbers up to the pairs that are still to be turned are needed.
        self.counts = counts[:turned + 1]

    def next_ways(self):
        """The ascending list of the tuples (thing, number of sequences that go on with it)."""
        counts = over_bracket(self.counts, len(self.things))
        found = []
        for lesser, thing in enumerate(self.things):
            if self.forest[thing] not in self.things:
                turned = self.turned - lesser
                ways = _item(counts, turned) - _item(counts, turned - self.size_of[thing])
                found.append((thing, ways))
        return sorted(found)

    def take(self, thing):
        """Take a thing that can be next."""
        self.turned = self.turned - list(self.things).index(thing)
        # Without the thing one thing less is left, and no more the bracket of its size.
        counts = over_bracket(self.counts[:self.turned + 1], len(self.things))
        self.counts = times_bracket(counts, self.size_of[thing])
        del self.things[thing]


def _next_for(next_ways, index):
    """The thing that is next in the sequence with an index, and its index among those that go on so."""
    at = 0
    while index >= next_ways[at][1]:
        index = index - next_ways[at][1]
        at = at + 1
    return (next_ways[at][0], index)


def _item(counts, power):
    """The number that belongs to a power of q, also to one below 0."""
    return counts[power] if power >= 0 else 0
