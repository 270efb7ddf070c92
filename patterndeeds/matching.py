"""Matching: what patterns take in texts, and what is put there instead."""

from patterndeeds.automata import Automaton
from patterndeeds.deriving import Chart, end_of_derivation
from patterndeeds.errors import RunError
from patterndeeds.searching import cuts_in, found_in, is_held, is_taken, longest_from, stretches_in
from patterndeeds.values import MOST_SIGNS


def takes(pattern, text, start, end):
    """Whether a pattern takes a stretch of a text."""
    return is_taken(Automaton(pattern), text, start, end)


def holds(pattern, text):
    """Whether a pattern takes some stretch of a text."""
    return is_held(Automaton(pattern), text)


def longest(pattern, text, start):
    """The greatest end of the stretches that start at an index and are taken; None without one."""
    return longest_from(Automaton(pattern), text, start)


def found(pattern, text, start=0):
    """The stretch that is found from an index on; None if there is none."""
    return found_in(Automaton(pattern), text, start)


def stretches(pattern, text):
    """The list of the stretches of a pattern in a text."""
    return stretches_in(Automaton(pattern), text)


def cuts(pattern, text):
    """The list of the cuts of a pattern in a text."""
    return cuts_in(Automaton(pattern), text)


def derivation(pattern, text, start, end):
    """A derivation of a pattern over a stretch; None if the stretch is not taken."""
    if not is_taken(Automaton(pattern), text, start, end):
        return None
    return Chart(pattern, text).derivation(start, end)


def is_derivation(pattern, text, start, end, value):
    """Whether any value is a derivation of a pattern over a stretch."""
    return end_of_derivation(pattern, text, start, value) == end


def put_in(new, taken):
    """The text new with the taken text at each & that has no backslash."""
    parts = []
    at = 0
    while at < len(new):
        sign = new[at]
        if sign == "&":
            sign = taken
        elif sign == "\\" and new[at + 1:at + 2] in ("&", "\\"):
            at += 1
            sign = new[at]
        parts.append(sign)
        at += 1
    return "".join(parts)


def replaced(pattern, new, text, every):
    """The text with a new text for each stretch, or for the one that is found, and their number."""
    return replaced_in(Automaton(pattern), new, text, every)


def replaced_in(automaton, new, text, every):
    """What replaced tells, by the automaton of the pattern."""
    rows = []
    if every:
        rows = stretches_in(automaton, text)
    else:
        stretch = found_in(automaton, text, 0)
        if stretch is not None:
            rows = [stretch]
    parts = []
    first = 0
    for start, end in rows:
        parts.append(text[first:start])
        parts.append(put_in(new, text[start:end]))
        first = end
    made = "".join(parts) + text[first:]
    if len(made) > MOST_SIGNS:
        raise RunError("long")
    return made, len(rows)
