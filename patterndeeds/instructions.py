"""Instructions: what each of them does to a run.

Each function has a run and the instruction, and returns the row that comes next, None for the one
behind. What fails raises a RunError, and what waits raises Waiting, ahead of all changes.
"""

from patterndeeds.deeds import (
    close_name, key_of, set_field, set_scalar, take_aside, take_main, write_out,
)
from patterndeeds.errors import RunError
from patterndeeds.formats import formatted
from patterndeeds.matching import replaced_in
from patterndeeds.records import field_number, field_value, joined
from patterndeeds.runs import Frame
from patterndeeds.searching import is_held
from patterndeeds.texts import built, places_in
from patterndeeds.values import (
    MINUS_ONE, ONE, UNSET, ZERO, as_number, compared, compared_numbers, is_true, minus, operated, order_of,
    put_together, text_of, truth_value, whole,
)

MOST_OPEN = 16
HOLDING = {"<": (-1,), "<=": (-1, 0), "==": (0,), "!=": (-1, 1), ">": (1,), ">=": (0, 1)}


def do_constant(run, row):
    run.stack.append(row[1])


def do_name(run, row):
    run.stack.append(run.scalars[row[1]])


def do_local(run, row):
    run.stack.append(run.frames[-1].cells[row[1]])


def do_range(run, row):
    run.stack.append(truth_value(run.ranges[row[1]]))


def do_field(run, _):
    run.stack[-1] = field_value(run.record, field_number(run.stack[-1]))


def do_element(run, row):
    run.stack[-1] = run.array_at(row[1]).setdefault(text_of(run.stack[-1]), UNSET)


def do_is_in(run, row):
    run.stack[-1] = truth_value(text_of(run.stack[-1]) in run.array_at(row[1]))


def do_minus(run, _):
    run.stack[-1] = minus(run.stack[-1])


def do_plus(run, _):
    run.stack[-1] = as_number(run.stack[-1])


def do_not(run, _):
    run.stack[-1] = truth_value(not is_true(run.stack[-1]))


def do_close(run, _):
    closed = close_name(run, text_of(run.stack.pop()))
    run.stack.append(ZERO if closed else MINUS_ONE)


def do_key(run, row):
    key = key_of(run, run.stack[-row[1]:])
    del run.stack[-row[1]:]
    run.stack.append(("text", key))


def do_size(run, row):
    run.stack.append(("number", len(run.array_at(row[1])), 1))


def do_array(run, row):
    run.stack.append(run.reference(row[1]))


def do_set_name(run, row):
    set_scalar(run, row[1], run.stack[-1])


def do_set_local(run, row):
    run.frames[-1].cells[row[1]] = run.stack[-1]


def do_set_field(run, _):
    set_field(run, run.stack[-1], run.stack[-2])
    run.stack.pop()


def do_set_element(run, row):
    key = text_of(run.stack.pop())
    run.array_at(row[1])[key] = run.stack[-1]


def do_drop(run, _):
    run.stack.pop()


def do_copy(run, _):
    run.stack.append(run.stack[-1])


def do_turn(run, row):
    run.stack.append(run.stack.pop(-row[1]))


def give_for_two(run, value):
    """Puts a value there for the two on top."""
    run.stack.pop()
    run.stack[-1] = value


def do_op(run, row):
    give_for_two(run, operated(row[1], run.stack[-2], run.stack[-1]))


def do_compare(run, row):
    order = compared(run.stack[-2], run.stack[-1])
    give_for_two(run, truth_value(order in HOLDING[row[1]]))


def do_compare_as(run, row):
    _, how, operator = row
    one, other = run.stack[-2:]
    if how == "number":
        order = compared_numbers(one, other)
    else:
        order = order_of(text_of(one), text_of(other))
    give_for_two(run, truth_value(order in HOLDING[operator]))


def do_join(run, _):
    give_for_two(run, put_together(run.stack[-2], run.stack[-1]))


def do_match(run, _):
    automaton = run.automaton_of(text_of(run.stack[-1]))
    give_for_two(run, truth_value(is_held(automaton, text_of(run.stack[-2]))))


def do_built(run, row):
    _, word, many = row
    values = run.stack[-many:]
    if word == "match":
        value = built_match(run, text_of(values[0]), text_of(values[1]))
    else:
        value = built(word, values)
    del run.stack[-many:]
    run.stack.append(value)


def built_match(run, text, pattern_text):
    """Sets RSTART and RLENGTH to where a pattern holds in a text; the first of both."""
    position, length = places_in(run.automaton_of(pattern_text), text)
    run.scalars["RSTART"] = ("number", position, 1)
    run.scalars["RLENGTH"] = ("number", length, 1)
    return run.scalars["RSTART"]


def do_split(run, row):
    _, where, many = row
    values = run.stack[-many:]
    separator = run.special("FS")
    if many == 2:
        separator = text_of(values[1])
    fields = run.parter_of(separator, False).fields(text_of(values[0]))
    table = run.array_at(where)
    table.clear()
    for at, field in enumerate(fields):
        table[str(at + 1)] = ("seen", field)
    del run.stack[-many:]
    run.stack.append(("number", len(fields), 1))


def do_substitute(run, row):
    old, pattern_text, new = [text_of(value) for value in run.stack[-3:]]
    text, number = replaced_in(run.automaton_of(pattern_text), new, old, row[1])
    del run.stack[-3:]
    run.stack.append(("text", text))
    run.stack.append(("number", number, 1))


def do_print(run, row):
    _, many, kind = row
    values, name = written_things(run, many, kind)
    texts = [text_of(value) for value in values]
    # The last joint is that of ORS; both count for the length.
    line = joined([joined(texts, run.special("OFS")), ""], run.special("ORS"))
    write_out(run, kind, name, line)
    drop_written(run, many, kind)


def do_printf(run, row):
    _, many, kind = row
    values, name = written_things(run, many, kind)
    write_out(run, kind, name, formatted(text_of(values[0]), values[1:]))
    drop_written(run, many, kind)


def written_things(run, many, kind):
    """The values that are written, and the name of the output."""
    if kind == "":
        return run.stack[-many:], ""
    return run.stack[-many - 1:-1], text_of(run.stack[-1])


def drop_written(run, many, kind):
    """Takes what was written, and the name, off the stack."""
    if kind != "":
        many += 1
    del run.stack[-many:]


def do_read(run, row):
    _, kind, into = row
    given = ONE
    if kind == "main":
        text = take_main(run, into == "record")
    else:
        name = text_of(run.stack[-1])
        if (kind, name) in run.asides:
            text = take_aside(run, kind, name, into == "record")
        else:
            text = None
            given = MINUS_ONE
        run.stack.pop()
    if text is None and given == ONE:
        given = ZERO
    if into == "value":
        run.stack.append(UNSET if text is None else ("seen", text))
    run.stack.append(given)


def do_set_range(run, row):
    run.ranges[row[1]] = row[2]


def do_clear(run, row):
    run.array_at(row[1]).clear()


def do_delete(run, row):
    run.array_at(row[1]).pop(text_of(run.stack.pop()), None)


def do_tick(run, row):
    run.at_place = row[1]


def do_jump(_, row):
    return row[1]


def do_jump_if(run, row):
    if is_true(run.stack.pop()) == row[1]:
        return row[2]
    return None


def do_walk(run, row):
    keys = tuple(sorted(run.array_at(row[1])))
    run.stack.append(("walk", run.reference(row[1]), keys))


def do_next_key(run, row):
    _, reference, keys = run.stack.pop()
    table = run.array_at(reference)
    for at, key in enumerate(keys):
        if key in table:
            run.stack.append(("walk", reference, keys[at + 1:]))
            run.stack.append(("text", key))
            return None
    return row[1]


def do_call(run, row):
    _, name, many = row
    if len(run.frames) == MOST_OPEN:
        raise RunError("deep")
    body = run.numbers[name]
    base = len(run.stack) - many
    cells = run.stack[base:]
    del run.stack[base:]
    for kind in run.bodies[body][1][many:]:
        if kind == "array":
            cells.append({})
        else:
            cells.append(UNSET)
    run.frames.append(Frame(name, cells, base, (run.body, run.row + 1, run.at_place)))
    run.enter(body)
    return 0


def do_return(run, _):
    value = run.stack[-1]
    frame = run.frames.pop()
    del run.stack[frame.base:]
    run.stack.append(value)
    body, row, run.at_place = frame.origin
    run.enter(body)
    return row


def do_exit(run, row):
    if row[1]:
        run.exit_code = whole(run.stack[-1])[1]
    if run.phase == "end":
        return do_halt(run, row)
    return leave_all(run)


def leave_all(run):
    """Ends all calls and empties the stack; the row at which the END rules begin."""
    if run.frames:
        run.at_place = run.frames[0].origin[2]
    run.frames = []
    run.stack = []
    run.enter(0)
    return run.bodies[0][2].index(("phase", "end"))


def do_halt(run, _):
    row = leave_all(run)
    run.phase = "over"
    run.ending = ("over", run.exit_code)
    return row


def do_record(run, row):
    if take_main(run, True) is None:
        return row[1]
    return None


def do_next(run, row):
    run.stack = []
    return row[1]


def do_phase(run, row):
    run.phase = row[1]


# What does each instruction.
ACTIONS = {
    "constant": do_constant, "name": do_name, "local": do_local, "range": do_range, "field": do_field,
    "element": do_element, "is_in": do_is_in, "minus": do_minus, "plus": do_plus, "not": do_not,
    "close": do_close, "key": do_key, "size": do_size, "array": do_array, "set_name": do_set_name,
    "set_local": do_set_local, "set_field": do_set_field, "set_element": do_set_element, "drop": do_drop,
    "copy": do_copy, "turn": do_turn, "op": do_op, "compare": do_compare, "compare_as": do_compare_as,
    "join": do_join, "match": do_match, "built": do_built, "split": do_split, "substitute": do_substitute,
    "print": do_print, "printf": do_printf, "read": do_read, "tick": do_tick, "set_range": do_set_range,
    "clear": do_clear, "delete": do_delete, "jump": do_jump, "jump_if": do_jump_if, "walk": do_walk,
    "next_key": do_next_key, "call": do_call, "return": do_return, "exit": do_exit, "record": do_record,
    "next": do_next, "phase": do_phase, "halt": do_halt,
}
