"""How far the ways down to two things are done.

With `left` things left, each thing that can be next is next in a share of
size / left of the sequences, whatever the other things did so far. So it is
enough to know how many things of each way are done: a state is the tuple of
these two numbers. A dict gives each state its weight; behind t of n things
the weights come to n * (n - 1) * .. * (n - t + 1), so that they are integers.
"""

from heldbehind.forests import above, sizes


class TwoWays:
    """The ways from above down to two things, each with the thing at its end."""

    def __init__(self, forest, thing, other):
        self.size_of = sizes(forest)
        self.way = _way_down(forest, thing)
        self.other_way = _way_down(forest, other)

    def state_before_both(self):
        """The state in which just the two things are not done of their ways."""
        return (len(self.way) - 2, len(self.other_way) - 2)

    def ends_done(self, state):
        """The tuple of whether the one thing and the other one are done."""
        return (self.way[state[0]] is None, self.other_way[state[1]] is None)

    def just_one_done(self, state):
        """Whether one of the two things is done and the other one is not."""
        first_done, other_done = self.ends_done(state)
        return first_done != other_done

    def next_on_ways(self, state):
        """The tuples (thing, state behind it) of what can be next on the ways."""
        at, other_at = state
        head, other_head = self.way[at], self.other_way[other_at]
        if head is None and other_head is None:
            return []
        if head == other_head:
            return [(head, (at + 1, other_at + 1))]
        found = []
        if head is not None:
            found.append((head, (at + 1, other_at)))
        if other_head is not None:
            found.append((other_head, (at, other_at + 1)))
        return found

    def weights_behind(self, weights, left):
        """The weights of the states behind one more thing, with so many left ahead of it."""
        found = {}
        for state, weight in weights.items():
            stay = left
            for thing, behind in self.next_on_ways(state):
                size = self.size_of[thing]
                stay = stay - size
                found[behind] = found.get(behind, 0) + weight * size
            # Where nothing beside the ways can be next, no sequence stays in the state.
            if stay > 0:
                found[state] = found.get(state, 0) + weight * stay
        return found


def _way_down(forest, thing):
    """The way from above down to a thing, and None behind its end."""
    return above(forest, thing)[::-1] + [thing, None]
