"""Forests, sequences and stages as texts, and back."""

from heldbehind.errors import InvalidSequence, InvalidStages, InvalidText
from heldbehind.forests import check_forest, is_forest
from heldbehind.integers import is_order
from heldbehind.stages import are_stages

# Stages are judged without a forest, so as if there were the most things.
MANY_THINGS = 60


def format_forest(forest):
    """The text of a forest."""
    check_forest(forest)
    return " ".join(["-" if holder is None else str(holder) for holder in forest])


def format_sequence(sequence):
    """The text of a list of all integers from 0 to its length - 1."""
    if not is_order(sequence):
        raise InvalidSequence()
    return " > ".join([str(thing) for thing in sequence])


def format_stages(stages):
    """The text of stages of things from 0 to 59."""
    if not are_stages(stages, MANY_THINGS):
        raise InvalidStages()
    return " | ".join([" ".join([str(thing) for thing in stage]) for stage in stages])


def parse_forest(text):
    """The forest that a text is written for."""
    _check_text(text)
    words = text.split(" ")
    meant = _meant_by_words(len(words))
    meant["-"] = None
    forest = tuple(_read(words, meant))
    if not is_forest(forest):
        raise InvalidText()
    return forest


def parse_sequence(text):
    """The list that a text is written for, of all integers from 0 to its length - 1."""
    _check_text(text)
    words = text.split(" > ")
    sequence = _read(words, _meant_by_words(len(words)))
    if not is_order(sequence):
        raise InvalidText()
    return sequence


def parse_stages(text):
    """The stages of things from 0 to 59 that a text is written for."""
    _check_text(text)
    # If it were split, the empty text would be one stage.
    stage_texts = text.split(" | ") if len(text) > 0 else []
    meant = _meant_by_words(MANY_THINGS)
    stages = [tuple(_read(stage_text.split(" "), meant)) for stage_text in stage_texts]
    if not are_stages(stages, MANY_THINGS):
        raise InvalidText()
    return stages


def _check_text(text):
    if not isinstance(text, str):
        raise InvalidText()


def _meant_by_words(many):
    """The numbers from 0 to many - 1 by the only words that are written for them."""
    return {str(number): number for number in range(many)}


def _read(words, meant):
    """The list of what words are written for."""
    if not all([word in meant for word in words]):
        raise InvalidText()
    return [meant[word] for word in words]
