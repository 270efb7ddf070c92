"""Texts of held states: how they are written, and how they are read."""

from patterndeeds.checker import checked_shapes
from patterndeeds.errors import InvalidText
from patterndeeds.holding import check_held, is_fitting
from patterndeeds.things import text_of_tuple, tuple_of_text


def held_text(code, held):
    """The text of a held state."""
    check_held(code, checked_shapes(code), None, held)
    return text_of_tuple(held)


def held_of(code, text):
    """The held state of a code with this text."""
    shapes = checked_shapes(code)
    held = tuple_of_text(text)
    if not is_fitting(code, shapes, None, held):
        raise InvalidText(len(text))
    return held
