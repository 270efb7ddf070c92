"""Holding: which values are held states that fit a code and a world."""

from patterndeeds.effects import PHASE_END
from patterndeeds.errors import InvalidHeld
from patterndeeds.instructions import MOST_OPEN
from patterndeeds.signs import is_text
from patterndeeds.values import is_value
from patterndeeds.worlds import KINDS

PHASES = ("begin", "main", "end", "over")
OUTPUT_KINDS = ("", ">", "|")
ERROR_WORDS = ("divide", "power", "great", "long", "field", "pattern", "format", "deep")


def check_held(code, shapes, world, held):
    """Raises InvalidHeld unless a value fits a code with these shapes and a world, some world for None."""
    if not is_fitting(code, shapes, world, held):
        raise InvalidHeld("the value is no held state that fits")


def is_fitting(code, shapes, world, value):
    """Whether any value is a held state that fits a code with these shapes and a world, some world for None."""
    if type(value) is not tuple or len(value) != 6:
        return False
    ending, place, at, stack, calls, room = value
    if type(place) is not int or place < 0 or not is_pair_of_counts(at):
        return False
    if type(stack) is not tuple or type(calls) is not tuple or len(calls) > MOST_OPEN:
        return False
    parts = stack_parts(code, shapes, calls, at)
    if parts is None or not is_stack(code, calls, parts, stack):
        return False
    return is_room(code, world, room) and is_ending(code, ending, value)


def is_count(value):
    """Whether any value is an integer from 0 on."""
    return type(value) is int and value >= 0


def is_pair_of_counts(value):
    """Whether any value is a tuple of two integers from 0 on."""
    return type(value) is tuple and len(value) == 2 and is_count(value[0]) and is_count(value[1])


def is_room(code, world, value):
    """Whether any value is a room for a code and a world."""
    if type(value) is not tuple or len(value) != 8:
        return False
    phase, exit_code, scalars, arrays, ranges, record, readers, outputs = value
    if type(phase) is not str or phase not in PHASES or type(exit_code) is not int:
        return False
    if not are_scalars(code[0], scalars) or not are_arrays(code[1], arrays) or not are_ranges(code[2], ranges):
        return False
    if not is_record(record) or scalars[code[0].index("NF")][1] != ("number", len(record[1]), 1):
        return False
    return are_readers(world, readers) and are_outputs(outputs)


def are_scalars(names, value):
    """Whether any value is a tuple of pairs of these names and values."""
    if type(value) is not tuple or len(value) != len(names):
        return False
    for name, row in zip(names, value):
        if type(row) is not tuple or len(row) != 2 or type(row[0]) is not str or row[0] != name:
            return False
        if not is_value(row[1]):
            return False
    return True


def are_arrays(names, value):
    """Whether any value is a tuple of pairs of these names and tables."""
    if type(value) is not tuple or len(value) != len(names):
        return False
    for name, row in zip(names, value):
        if type(row) is not tuple or len(row) != 2 or type(row[0]) is not str or row[0] != name:
            return False
        if not is_table(row[1]):
            return False
    return True


def are_ranges(many, value):
    """Whether any value is a tuple of so many truths."""
    return type(value) is tuple and len(value) == many and [one for one in value if type(one) is not bool] == []


def is_table(value):
    """Whether any value is a table."""
    if type(value) is not tuple:
        return False
    ahead = None
    for row in value:
        if type(row) is not tuple or len(row) != 2 or not is_text(row[0]) or not is_value(row[1]):
            return False
        if ahead is not None and row[0] <= ahead:
            return False
        ahead = row[0]
    return True


def are_ascending_texts(value):
    """Whether any value is an ascending tuple of texts."""
    if type(value) is not tuple:
        return False
    ahead = None
    for text in value:
        if not is_text(text) or ahead is not None and text <= ahead:
            return False
        ahead = text
    return True


def is_record(value):
    """Whether any value is a record."""
    if type(value) is not tuple or len(value) != 2 or not is_text(value[0]) or type(value[1]) is not tuple:
        return False
    for text in value[1]:
        if not is_text(text):
            return False
    return True


def are_readers(world, value):
    """Whether any value has the readers of a run in a world, in some world for None."""
    if type(value) is not tuple or len(value) != 3 or type(value[2]) is not tuple:
        return False
    index, at, asides = value
    if type(index) is not int or type(at) is not int or index < -1 or at < 0 or index == -1 and at != 0:
        return False
    if world is not None and index >= 0 and not lies_in(at, world[0][index:index + 1]):
        return False
    ahead = ()
    for row in asides:
        if type(row) is not tuple or len(row) != 3 or type(row[0]) is not str or row[0] not in KINDS:
            return False
        if not is_text(row[1]) or not is_count(row[2]) or row[:2] <= ahead:
            return False
        if world is not None and not lies_in(row[2], [aside for aside in world[1] if aside[:2] == row[:2]]):
            return False
        ahead = row[:2]
    return True


def lies_in(at, inputs):
    """Whether there is an input, and it has so many signs."""
    return len(inputs) == 1 and at <= len(inputs[0][-2])


def are_outputs(value):
    """Whether any value has the outputs of a run."""
    if type(value) is not tuple:
        return False
    seen = {}
    for row in value:
        if type(row) is not tuple or len(row) != 4 or type(row[0]) is not str or row[0] not in OUTPUT_KINDS:
            return False
        if not is_text(row[1]) or not is_text(row[2]) or type(row[3]) is not bool or row[:2] in seen:
            return False
        if row[0] == "" and (row[1] != "" or not row[3]):
            return False
        seen[row[:2]] = True
    return True


def stack_parts(code, shapes, calls, at):
    """The parts of a stack, as shapes, of the main and of the calls; None if the calls or the rows do not fit."""
    numbers = {body[0]: number for number, body in enumerate(code[3])}
    number = 0
    base = 0
    parts = []
    for depth, call in enumerate(calls):
        if not is_call(call) or call[0] not in numbers:
            return None
        name, cells, low, (body, row, _) = call
        rows = code[3][number][2]
        if body != number or not 1 <= row < len(rows) or rows[row - 1][:2] != ("call", name):
            return None
        if shapes[number][row - 1] is None:
            return None
        part = shapes[number][row][:-1]
        parts.append(part)
        base += len(part)
        number = numbers[name]
        if low != base or not are_cells(code, calls, depth, code[3][number][1], cells):
            return None
    if at[0] != number or at[1] >= len(shapes[number]) or shapes[number][at[1]] is None:
        return None
    parts.append(shapes[number][at[1]])
    return parts


def is_call(value):
    """Whether any value looks like an open call, whatever its function and its locals are."""
    if type(value) is not tuple or len(value) != 4:
        return False
    name, cells, low, back = value
    if type(name) is not str or type(cells) is not tuple or type(low) is not int:
        return False
    if type(back) is not tuple or len(back) != 3:
        return False
    body, row, place = back
    return type(body) is int and type(row) is int and type(place) is int and place >= 0


def are_cells(code, calls, depth, params, cells):
    """Whether what the call with a depth has as its locals is as its params want."""
    if len(cells) != len(params):
        return False
    for kind, one in zip(params, cells):
        if kind == "value":
            if not is_value(one):
                return False
        elif is_own(one):
            if not is_table(one[1]):
                return False
        elif not is_reference(code, calls, depth, one):
            return False
    return True


def is_own(value):
    """Whether any value looks like an array that stands itself in a call, whatever its table is."""
    return type(value) is tuple and len(value) == 2 and type(value[0]) is str and value[0] == "table"


def is_reference(code, calls, depth, value):
    """Whether any value leads to an array of a code, or to a table in one of the calls up to a depth.

    The tables themselves are looked at where they stand.
    """
    if type(value) is not tuple:
        return False
    if len(value) == 2:
        how, name = value
        return type(how) is str and how == "global" and type(name) is str and name in code[1]
    if len(value) != 3:
        return False
    how, level, at = value
    if type(how) is not str or how != "own" or type(level) is not int or type(at) is not int:
        return False
    if not 0 <= level <= depth or not 0 <= at < len(calls[level][1]):
        return False
    return is_own(calls[level][1][at])


def is_stack(code, calls, parts, stack):
    """Whether a stack has these parts; those of the calls are behind that of the main."""
    if len(stack) != sum([len(part) for part in parts]):
        return False
    at = 0
    for number, part in enumerate(parts):
        for word in part:
            thing = stack[at]
            at += 1
            if word == "value":
                fitting = is_value(thing)
            elif word == "array":
                fitting = is_reference(code, calls, number - 1, thing)
            else:
                fitting = is_walk(code, calls, number - 1, thing)
            if not fitting:
                return False
    return True


def is_walk(code, calls, depth, value):
    """Whether any value is a walk over an array."""
    if type(value) is not tuple or len(value) != 3:
        return False
    word, reference, keys = value
    if type(word) is not str or word != "walk" or not is_reference(code, calls, depth, reference):
        return False
    return are_ascending_texts(keys)


def is_ending(code, ending, held):
    """Whether any value may be the end of what else is a held state that fits."""
    _, place, at, stack, calls, room = held
    if ending is None:
        return room[0] != "over"
    if type(ending) is not tuple or len(ending) < 2 or type(ending[0]) is not str or type(ending[-1]) is not int:
        return False
    if ending[0] == "error":
        if len(ending) != 3 or type(ending[1]) is not str or ending[1] not in ERROR_WORDS:
            return False
        return ending[2] == place and room[0] != "over"
    if ending != ("over", room[1]) or room[0] != "over":
        return False
    return at == (0, code[3][0][2].index(PHASE_END)) and stack == () and calls == ()
