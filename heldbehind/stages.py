"""Sequences of which the first stages are known, or the last things."""

from heldbehind.errors import InvalidEnds, InvalidIndex, InvalidStages, NoSequence
from heldbehind.forests import check_forest, forest_among, sizes
from heldbehind.integers import are_different, is_index, lowest
from heldbehind.left import can_be_next
from heldbehind.sequences import count_sequences, nth_sequence


def are_stages(value, many):
    """Whether any value is stages of things from 0 to many - 1."""
    if not isinstance(value, list) or not all([isinstance(stage, tuple) for stage in value]):
        return False
    things = [thing for stage in value for thing in stage]
    return are_different(things, many) and all([_ascends(stage) for stage in value])


def stage_fault(forest, stages):
    """None if some sequence keeps the stages, or the tuple (index, thing) of their first fault."""
    _check_stages(forest, stages)
    done = {}
    for index, stage in enumerate(stages):
        for thing in stage:
            done[thing] = True
        for thing in stage:
            if forest[thing] is not None and forest[thing] not in done:
                return (index, thing)
    return None


def count_with(forest, stages):
    """How many sequences keep the stages."""
    if stage_fault(forest, stages) is not None:
        return 0
    found = 1
    for things in _blocks(forest, stages):
        found = found * count_sequences(forest_among(forest, things))
    return found


def nth_with(forest, stages, index):
    """The sequence with an index among those that keep the stages."""
    _check_some_keeps(forest, stages)
    if not is_index(index, count_with(forest, stages)):
        raise InvalidIndex()
    found = []
    # Sequences that follow on one another differ in their last things first.
    for things in _blocks(forest, stages)[::-1]:
        block = forest_among(forest, things)
        index, block_index = divmod(index, count_sequences(block))
        found = [things[at] for at in nth_sequence(block, block_index)] + found
    return found


def share_with(forest, stages):
    """The share of the sequences that keep the stages."""
    return lowest(count_with(forest, stages), count_sequences(forest))


def next_shares(forest, stages):
    """The list of the tuples (thing, share) of all things that can be next behind the stages."""
    _check_some_keeps(forest, stages)
    rest = _rest(forest, stages)
    size_of = sizes(forest)
    return [(thing, lowest(size_of[thing], len(rest))) for thing in can_be_next(forest, rest)]


def last_count(forest, ends):
    """How many sequences end with the things of a list, in this sequence."""
    check_forest(forest)
    if not isinstance(ends, list) or not are_different(ends, len(forest)):
        raise InvalidEnds()
    stages = [(thing,) for thing in ends]
    rest = _rest(forest, stages)
    if len(rest) > 0:
        stages = [tuple(rest)] + stages
    return count_with(forest, stages)


def _ascends(things):
    return len(things) > 0 and list(things) == sorted(things)


def _check_stages(forest, stages):
    check_forest(forest)
    if not are_stages(stages, len(forest)):
        raise InvalidStages()


def _check_some_keeps(forest, stages):
    if stage_fault(forest, stages) is not None:
        raise NoSequence()


def _rest(forest, stages):
    """The ascending list of the things that are in no stage."""
    placed = {thing: True for stage in stages for thing in stage}
    return [thing for thing in range(len(forest)) if thing not in placed]


def _blocks(forest, stages):
    """The stages and, if any things are left, the list of these: each is put into sequence for itself."""
    rest = _rest(forest, stages)
    return stages + [rest] if len(rest) > 0 else stages
