"""Holding: which values are held states that fit a code and a world."""

from patterndeeds.effects import PHASE_END
from patterndeeds.errors import InvalidHeld
from patterndeeds.instructions import MOST_OPEN
from patterndeeds.signs import is_text
from patterndeeds.values import is_value
from patterndeeds.worlds import KINDS

PHASES = ("begin", "main", "end", "over")
OUTPUT_KINDS = ("", ">", "|")
ERROR_WORDS = ("divide", "power", "great", "long", "field", "pattern", "format", "deep")


def check_held(code, shapes, world, held):
    """Raises InvalidHeld unless a value fits a code with these shapes and a world, some world for None."""
    if not is_fitting(code, shapes, world, held):
        raise InvalidHeld("the value is no held state that fits")


def is_fitting(code, shapes, world, value):
    """Whether any value is a held state that fits a code with these shapes and a world, some world for None."""
    if type(value) is not tuple or len(value) != 6:
        return False
    ending, place, at, stack, calls, room = value
    if not is_count(place) or not is_pair_of_counts(at) or type(stack) is not tuple or type(calls) is not tuple:
        return False
    if not is_room(code, world, room) or len(calls) > MOST_OPEN:
        return False
    parts = stack_parts(code, shapes, calls, at)
    if parts is None or not are_locals(code, calls) or not is_stack(code, calls, parts, stack):
        return False
    return is_ending(code, ending, value)


def is_count(value):
    """Whether any value is an integer from 0 on."""
    return type(value) is int and value >= 0


def is_pair_of_counts(value):
    """Whether any value is a tuple of two integers from 0 on."""
    return type(value) is tuple and len(value) == 2 and is_count(value[0]) and is_count(value[1])


def is_room(code, world, value):
    """Whether any value is a room for a code and a world."""
    if type(value) is not tuple or len(value) != 8:
        return False
    phase, exit_code, scalars, arrays, ranges, record, readers, outputs = value
    if type(phase) is not str or phase not in PHASES or type(exit_code) is not int:
        return False
    if not are_named(code[0], scalars) or not are_named(code[1], arrays) or not are_ranges(code[2], ranges):
        return False
    for _, one in scalars:
        if not is_value(one):
            return False
    for _, table in arrays:
        if not is_table(table):
            return False
    if not is_record(record) or dict(scalars)["NF"] != ("number", len(record[1]), 1):
        return False
    return are_readers(world, readers) and are_outputs(outputs)


def are_named(names, value):
    """Whether any value is a tuple of pairs with these names."""
    if type(value) is not tuple or len(value) != len(names):
        return False
    for name, row in zip(names, value):
        if type(row) is not tuple or len(row) != 2 or type(row[0]) is not str or row[0] != name:
            return False
    return True


def are_ranges(many, value):
    """Whether any value is a tuple of so many truths."""
    return type(value) is tuple and len(value) == many and [one for one in value if type(one) is not bool] == []


def is_table(value):
    """Whether any value is a table."""
    if type(value) is not tuple:
        return False
    for row in value:
        if type(row) is not tuple or len(row) != 2 or not is_text(row[0]) or not is_value(row[1]):
            return False
    return is_ascending([row[0] for row in value])


def is_ascending(rows):
    """Whether each of some strings or tuples is greater than the one ahead."""
    for one, other in zip(rows, rows[1:]):
        if one >= other:
            return False
    return True


def are_texts(value):
    """Whether any value is a tuple of texts."""
    return type(value) is tuple and [one for one in value if not is_text(one)] == []


def is_record(value):
    """Whether any value is a record."""
    return type(value) is tuple and len(value) == 2 and is_text(value[0]) and are_texts(value[1])


def are_readers(world, value):
    """Whether any value has the readers of a run in a world, in some world for None."""
    if type(value) is not tuple or len(value) != 3 or type(value[2]) is not tuple:
        return False
    index, at, asides = value
    if type(index) is not int or index < -1 or not is_count(at) or index == -1 and at != 0:
        return False
    if world is not None and index >= 0 and not lies_in(at, world[0][index:index + 1]):
        return False
    for row in asides:
        if type(row) is not tuple or len(row) != 3 or type(row[0]) is not str or row[0] not in KINDS:
            return False
        if not is_text(row[1]) or not is_count(row[2]):
            return False
        if world is not None and not lies_in(row[2], [aside for aside in world[1] if aside[:2] == row[:2]]):
            return False
    return is_ascending([row[:2] for row in asides])


def lies_in(at, inputs):
    """Whether there is an input, and it has so many signs."""
    return len(inputs) == 1 and at <= len(inputs[0][-2])


def are_outputs(value):
    """Whether any value has the outputs of a run."""
    if type(value) is not tuple:
        return False
    seen = {}
    for row in value:
        if type(row) is not tuple or len(row) != 4 or type(row[0]) is not str or row[0] not in OUTPUT_KINDS:
            return False
        if not is_text(row[1]) or not is_text(row[2]) or type(row[3]) is not bool or row[:2] in seen:
            return False
        if row[0] == "" and (row[1] != "" or not row[3]):
            return False
        seen[row[:2]] = True
    return True


def stack_parts(code, shapes, calls, at):
    """The parts of a stack, as shapes, of the main and of the calls; None if rows, calls and bases do not fit."""
    numbers = {body[0]: number for number, body in enumerate(code[3])}
    caller = 0
    base = 0
    parts = []
    for call in calls:
        if not is_call(call) or call[0] not in numbers:
            return None
        body, row, _ = call[3]
        rows = code[3][body][2] if body == caller else ()
        if not 1 <= row < len(rows) or shapes[caller][row - 1] is None or rows[row - 1][:2] != ("call", call[0]):
            return None
        parts.append(shapes[caller][row][:-1])
        base += len(parts[-1])
        caller = numbers[call[0]]
        if call[2] != base or len(call[1]) != len(code[3][caller][1]):
            return None
    if at[0] != caller or at[1] >= len(shapes[caller]) or shapes[caller][at[1]] is None:
        return None
    return parts + [shapes[caller][at[1]]]


def is_call(value):
    """Whether any value looks like an open call of a function."""
    if type(value) is not tuple or len(value) != 4 or type(value[0]) is not str or value[0] == "":
        return False
    if type(value[1]) is not tuple or not is_count(value[2]):
        return False
    return type(value[3]) is tuple and len(value[3]) == 3 and [one for one in value[3] if not is_count(one)] == []


def are_locals(code, calls):
    """Whether the locals of calls, as many as there are params, are as the params want."""
    params = {body[0]: body[1] for body in code[3]}
    for depth, call in enumerate(calls):
        for kind, one in zip(params[call[0]], call[1]):
            if kind == "value":
                if not is_value(one):
                    return False
            elif not is_own_table(one) and not is_reference(code, calls, depth, one):
                return False
    return True


def is_own_table(value):
    """Whether any value is an array that stands itself in a call."""
    if type(value) is not tuple or len(value) != 2 or type(value[0]) is not str:
        return False
    return value[0] == "table" and is_table(value[1])


def is_reference(code, calls, depth, value):
    """Whether any value leads to an array of a code, or to a table in one of the calls up to a depth."""
    if type(value) is not tuple or len(value) < 2 or type(value[0]) is not str:
        return False
    if value[0] == "global":
        return len(value) == 2 and type(value[1]) is str and value[1] in code[1]
    if value[0] != "own" or len(value) != 3 or not is_pair_of_counts(value[1:]):
        return False
    if value[1] > depth or value[2] >= len(calls[value[1]][1]):
        return False
    return is_own_table(calls[value[1]][1][value[2]])


def is_stack(code, calls, parts, stack):
    """Whether a stack has these parts."""
    words = [(depth - 1, word) for depth, part in enumerate(parts) for word in part]
    if len(stack) != len(words):
        return False
    for (depth, word), thing in zip(words, stack):
        if word == "value":
            fitting = is_value(thing)
        elif word == "array":
            fitting = is_reference(code, calls, depth, thing)
        else:
            fitting = is_walk(code, calls, depth, thing)
        if not fitting:
            return False
    return True


def is_walk(code, calls, depth, value):
    """Whether any value is a walk over an array."""
    if type(value) is not tuple or len(value) != 3 or type(value[0]) is not str or value[0] != "walk":
        return False
    return is_reference(code, calls, depth, value[1]) and are_texts(value[2]) and is_ascending(value[2])


def is_ending(code, ending, held):
    """Whether any value may be the end of what else is a held state that fits."""
    _, place, at, stack, calls, room = held
    if ending is None:
        return room[0] != "over"
    if type(ending) is not tuple or len(ending) < 2 or type(ending[0]) is not str or type(ending[-1]) is not int:
        return False
    if ending[0] == "error":
        if len(ending) != 3 or type(ending[1]) is not str or ending[1] not in ERROR_WORDS:
            return False
        return ending[2] == place and room[0] != "over"
    if ending != ("over", room[1]) or room[0] != "over":
        return False
    return at == (0, code[3][0][2].index(PHASE_END)) and stack == () and calls == ()
