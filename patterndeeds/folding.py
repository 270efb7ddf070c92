"""Folding: passes that work out constants and leave out what does nothing."""

from patterndeeds.checker import checked_shapes
from patterndeeds.effects import NAMED, named_row, with_named
from patterndeeds.errors import RunError
from patterndeeds.instructions import HOLDING
from patterndeeds.matching import holds
from patterndeeds.rewriting import reached_rows, rewritten, rewritten_rows, without_gaps
from patterndeeds.texts import built, pattern_of
from patterndeeds.values import (
    as_number, compared, is_true, is_value, minus, operated, put_together, text_of, truth_value,
)

# What may be left out together with a drop behind it.
HARMLESS = ("constant", "name", "local", "range", "copy")


def folded(code):
    """The code with constants worked out."""
    checked_shapes(code)
    return rewritten(code, folded_rows)


def trimmed(code):
    """The code without what does nothing."""
    checked_shapes(code)
    return rewritten(code, trimmed_rows)


def swept(code):
    """The code without rows that are not reached."""
    checked_shapes(code)
    return rewritten(code, reached_rows)


def value_of_two(row, one, other):
    """What an instruction makes of two values; None for one that is not folded."""
    word = row[0]
    if word == "op":
        return operated(row[1], one, other)
    if word == "compare":
        return truth_value(compared(one, other) in HOLDING[row[1]])
    if word == "join":
        return put_together(one, other)
    if word == "match":
        return truth_value(holds(pattern_of(other), text_of(one)))
    return None


def value_of_one(row, one):
    """What an instruction makes of a value; None for one that is not folded."""
    word = row[0]
    if word == "minus":
        return minus(one)
    if word == "plus":
        return as_number(one)
    if word == "not":
        return truth_value(not is_true(one))
    if row == ("key", 1):
        return ("text", text_of(one))
    if word == "built" and row[2] == 1:
        return built(row[1], [one])
    return None


def constant_of(value):
    """What stands for a value that was worked out; None if it cannot stand in a constant."""
    if value is None or value[0] == "seen" or not is_value(value):
        return None
    return (("constant", value),)


def fold_two(found):
    """Folds two constants and what makes a value of them."""
    one, other, row = found
    if one[0] != "constant" or other[0] != "constant":
        return None
    try:
        value = value_of_two(row, one[1], other[1])
    except RunError:
        return None
    return constant_of(value)


def fold_one(found):
    """Folds a constant and what makes a value of it, or what goes on by it."""
    one, row = found
    if one[0] != "constant":
        return None
    if row[0] == "jump_if":
        if is_true(one[1]) == row[1]:
            return (("jump", row[2]),)
        return (None,)
    try:
        value = value_of_one(row, one[1])
    except RunError:
        return None
    return constant_of(value)


def trim_two(found):
    """Trims two instructions that do nothing, or as much as one."""
    one, other = found
    if other == ("drop",) and one[0] in HARMLESS:
        return (None,)
    if one == ("turn", 2) and other == ("turn", 2):
        return (None,)
    if one == ("not",) and other[0] == "jump_if":
        return (("jump_if", not other[1], other[2]),)
    return None


# The rules of the passes, as rewriting has them.
FOLDING = (
    (2, ("jump_if", "minus", "plus", "not", "key", "built"), fold_one),
    (3, ("op", "compare", "join", "match"), fold_two),
)
TRIMMING = ((2, ("drop", "turn", "jump_if"), trim_two),)


def folded_rows(body):
    """The rows of a body with constants worked out."""
    return rewritten_rows(body, FOLDING)


def trimmed_rows(body):
    """The rows of a body without what does nothing."""
    rows = reached_rows(body)
    while True:
        made = reached_rows(body[:2] + (with_goals(rows),))
        made = without_gaps([None if row == ("jump", at + 1) else row for at, row in enumerate(made)])
        made = rewritten_rows(body[:2] + (made,), TRIMMING)
        if made == rows:
            return rows
        rows = made


def with_goals(rows):
    """Rows, all reached, in which those that name a jump name its goal instead."""
    return tuple([with_named(row, goal_of(rows, named_row(row))) if row[0] in NAMED else row for row in rows])


def goal_of(rows, at):
    """The first row from a reached one on that is no jump, jumps being gone along."""
    while rows[at][0] == "jump":
        at = rows[at][1]
    return at
