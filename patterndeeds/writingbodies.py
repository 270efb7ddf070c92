"""Writing code for statements, rules and functions."""

from patterndeeds.kinds import arrays_of, head_kinds, scalars_of
from patterndeeds.standing import places_in
from patterndeeds.values import UNSET, ZERO
from patterndeeds.writing import Writer, write, write_all, write_key, write_stored


class Loop:
    """A loop that is being written: whether it is a walk, and the jumps that leave it or go on with it."""

    def __init__(self, is_walk):
        self.is_walk = is_walk
        self.leaving = []
        self.continuing = []


def write_body(writer, body):
    """Writes the statements of a body."""
    for statement in body:
        action = STATEMENT_WRITERS[statement[0]]
        action(writer, statement)


def write_expression(writer, statement):
    """An expression whose value is dropped."""
    writer.put_tick()
    write(writer, statement[1])
    writer.put("drop")


def write_print(writer, statement):
    """A print or printf."""
    tag, trees, out = statement
    writer.put_tick()
    if trees == ():
        trees = (("field", ZERO),)
    write_all(writer, trees)
    kind = ""
    if out is not None:
        kind = out[0]
        write(writer, out[1])
    writer.put(tag, len(trees), kind)


def write_if(writer, statement):
    """An if."""
    _, test, body, other = statement
    writer.put_tick()
    write(writer, test)
    skip = writer.put("jump_if", False, 0)
    write_body(writer, body)
    if other == ():
        writer.land([skip])
        return
    end = writer.put("jump", 0)
    writer.land([skip])
    write_body(writer, other)
    writer.land([end])


def write_looped(writer, loop, body):
    """The body of a loop."""
    writer.loops.append(loop)
    write_body(writer, body)
    writer.loops.pop()


def write_while(writer, statement):
    """A while."""
    _, test, body = statement
    loop = Loop(False)
    writer.put_tick()
    top = len(writer.rows) - 1
    write(writer, test)
    loop.leaving.append(writer.put("jump_if", False, 0))
    write_looped(writer, loop, body)
    writer.land(loop.continuing)
    writer.put("jump", top)
    writer.land(loop.leaving)


def write_do(writer, statement):
    """A do."""
    _, body, test = statement
    loop = Loop(False)
    writer.put_tick()
    top = len(writer.rows) - 1
    write_looped(writer, loop, body)
    writer.land(loop.continuing)
    write(writer, test)
    writer.put("jump_if", True, top)
    writer.land(loop.leaving)


def write_for(writer, statement):
    """A for. Its place is ahead of those of its first and its third part, these ahead of its body's."""
    _, first, test, third, body = statement
    loop = Loop(False)
    writer.at_place += 1
    place = writer.at_place
    write_body(writer, first)
    third_place = writer.at_place
    writer.at_place += len(third)
    top = writer.put("tick", place)
    if test is not None:
        write(writer, test)
        loop.leaving.append(writer.put("jump_if", False, 0))
    write_looped(writer, loop, body)
    last_place = writer.at_place
    writer.land(loop.continuing)
    writer.at_place = third_place
    write_body(writer, third)
    writer.at_place = last_place
    writer.put("jump", top)
    writer.land(loop.leaving)


def write_walk(writer, statement):
    """A walk over an array."""
    _, name, array, body = statement
    loop = Loop(True)
    writer.put("walk", writer.array(array))
    writer.put_tick()
    top = len(writer.rows) - 1
    end = writer.put("next_key", 0)
    write_stored(writer, ("name", name))
    writer.put("drop")
    write_looped(writer, loop, body)
    writer.land(loop.continuing)
    writer.put("jump", top)
    writer.land([end] + loop.leaving)


def write_break(writer, _):
    """A break. What a walk has on the stack goes with it."""
    writer.put_tick()
    if writer.loops[-1].is_walk:
        writer.put("drop")
    writer.loops[-1].leaving.append(writer.put("jump", 0))


def write_continue(writer, _):
    """A continue."""
    writer.put_tick()
    writer.loops[-1].continuing.append(writer.put("jump", 0))


def write_next(writer, _):
    """A next."""
    writer.put_tick()
    writer.put("next", writer.goal)


def write_exit(writer, statement):
    """An exit."""
    writer.put_tick()
    if statement[1] is not None:
        write(writer, statement[1])
    writer.put("exit", statement[1] is not None)


def write_return(writer, statement):
    """A return."""
    writer.put_tick()
    if statement[1] is None:
        writer.put("constant", UNSET)
    else:
        write(writer, statement[1])
    writer.put("return")


def write_delete(writer, statement):
    """A delete."""
    _, array, keys = statement
    writer.put_tick()
    if keys is None:
        writer.put("clear", writer.array(array))
    else:
        write_key(writer, keys)
        writer.put("delete", writer.array(array))


STATEMENT_WRITERS = {
    "expr": write_expression, "print": write_print, "printf": write_print, "if": write_if,
    "while": write_while, "do": write_do, "for": write_for, "walk": write_walk, "break": write_break,
    "continue": write_continue, "next": write_next, "exit": write_exit, "return": write_return,
    "delete": write_delete,
}


def function_rows(writer, body):
    """The rows of a function."""
    write_body(writer, body)
    writer.put("constant", UNSET)
    writer.put("return")
    return tuple(writer.rows)


def main_rows(writer, rules):
    """The rows of the main: the BEGIN rules, the main loop with the other rules, the END rules."""
    places = [0]
    for rule in rules:
        places.append(places[-1] + places_in((rule,)))
    for place, rule in zip(places, rules):
        if rule[0] == "begin":
            write_simple_rule(writer, place, rule)
    if len([rule for rule in rules if rule[0] != "begin"]) > 0:
        write_main_loop(writer, places, rules)
    else:
        writer.put("phase", "end")
    for place, rule in zip(places, rules):
        if rule[0] == "end":
            write_simple_rule(writer, place, rule)
    writer.put("halt")
    return tuple(writer.rows)


def write_simple_rule(writer, place, rule):
    """A rule without a pattern."""
    writer.at_place = place
    writer.put_tick()
    write_body(writer, rule[1])


def write_main_loop(writer, places, rules):
    """The taking of records and the rules that are done for each."""
    writer.put("phase", "main")
    writer.goal = writer.put("tick", 0)
    end = writer.put("record", 0)
    ranges = 0
    for place, rule in zip(places, rules):
        if rule[0] == "always":
            write_simple_rule(writer, place, rule)
        elif rule[0] == "when":
            write_when(writer, place, rule)
        elif rule[0] == "range":
            write_range(writer, place, rule, ranges)
            ranges += 1
    writer.put("jump", writer.goal)
    writer.land([end])
    writer.put("phase", "end")


def write_when(writer, place, rule):
    """A rule with a pattern."""
    writer.at_place = place
    writer.put_tick()
    write(writer, rule[1])
    skip = writer.put("jump_if", False, 0)
    write_rule_body(writer, rule[2])
    writer.land([skip])


def write_range(writer, place, rule, number):
    """A range rule, which has the bit with this number."""
    writer.at_place = place
    writer.put_tick()
    writer.put("range", number)
    second = writer.put("jump_if", True, 0)
    write(writer, rule[1])
    skip = writer.put("jump_if", False, 0)
    writer.put("set_range", number, True)
    writer.land([second])
    write(writer, rule[2])
    inside = writer.put("jump_if", False, 0)
    writer.put("set_range", number, False)
    writer.land([inside])
    write_rule_body(writer, rule[3])
    writer.land([skip])


def write_rule_body(writer, body):
    """The body of a rule, without one the print of the record."""
    if body is None:
        write(writer, ("field", ZERO))
        writer.put("print", 1, "")
    else:
        write_body(writer, body)


def program_code(program, table):
    """The code of a sound program, by the kinds of its slots."""
    rules, functions = program
    arrays = arrays_of(table)
    heads = {head[0]: head_kinds(table, head) for head in functions}
    bodies = [("", (), main_rows(Writer((), (), arrays, heads), rules))]
    place = places_in(rules)
    for name, params, body in functions:
        writer = Writer(params, heads[name], arrays, heads)
        writer.at_place = place
        bodies.append((name, heads[name], function_rows(writer, body)))
        place += places_in(body)
    ranges = len([rule for rule in rules if rule[0] == "range"])
    return (scalars_of(table), arrays, ranges, tuple(bodies))
