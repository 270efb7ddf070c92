"""Texts: what the built-in words without a state tell."""

from patterndeeds.automata import Automaton
from patterndeeds.errors import RunError
from patterndeeds.formats import formatted
from patterndeeds.patterns import read_or_none
from patterndeeds.searching import found_in
from patterndeeds.values import number_of, text_of, whole


def built(name, values):
    """The value of a call of a built-in word with a list of values."""
    if name == "int":
        return whole(values[0])
    text = text_of(values[0])
    if name == "length":
        return ("number", len(text), 1)
    if name == "index":
        return ("number", position(text, text_of(values[1])), 1)
    if name == "substr":
        return ("text", part_of(text, values[1:]))
    if name == "tolower":
        return ("text", text.lower())
    if name == "toupper":
        return ("text", text.upper())
    return ("text", formatted(text, values[1:]))


def position(text, other):
    """The first position at which another text stands in a text, 0 if there is none."""
    if other == "":
        return 0
    return text.find(other) + 1


def part_of(text, values):
    """The signs of a text from a position on, perhaps ahead of another one so many further."""
    top, bottom = number_of(values[0])
    first = max(1, next_integer(top, bottom))
    end = len(text) + 1
    if len(values) > 1:
        other_top, other_bottom = number_of(values[1])
        end = min(end, next_integer(top * other_bottom + other_top * bottom, bottom * other_bottom))
    if end <= first:
        return ""
    return text[first - 1:end - 1]


def next_integer(top, bottom):
    """The least integer that is not less than a fraction."""
    return -(-top // bottom)


def pattern_of(one):
    """The pattern that the text of a value is read as; RunError("pattern") if it is none."""
    pattern = read_or_none(text_of(one))
    if pattern is None:
        raise RunError("pattern")
    return pattern


def match_places(pattern, text):
    """The position and the length of the stretch that is found in a text; (0, -1) without one."""
    return places_in(Automaton(pattern), text)


def places_in(automaton, text):
    """What match_places tells, by the automaton of the pattern."""
    stretch = found_in(automaton, text, 0)
    if stretch is None:
        return 0, -1
    return stretch[0] + 1, stretch[1] - stretch[0]
