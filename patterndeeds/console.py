"""The console: a bench that is told what to do by commands."""

from patterndeeds.bench import Bench
from patterndeeds.codes import code_of
from patterndeeds.errors import InvalidCommand, InvalidWorld, NotReady
from patterndeeds.parser import program_of
from patterndeeds.printer import program_text
from patterndeeds.shortening import shortened
from patterndeeds.signs import is_digit, is_text
from patterndeeds.values import text_of
from patterndeeds.worlds import KINDS, with_aside

OUTPUT_KINDS = (">", "|")
MOST_DIGITS = 9
# What stands behind the first word of each command.
FORMS = {
    "program": ("text",), "input": ("name", "text"), "start": ("name", "text"), "aside": ("kind", "name", "text"),
    "more": ("number", "text"), "whole": ("number",), "feed": ("kind", "name", "text"), "close": ("kind", "name"),
    "go": ("number",), "back": ("number",), "run": ("number",), "mark": ("number",), "unmark": ("number",),
    "begin": (), "keep": (), "drop": (), "undo": (), "where": (), "show": ("name",), "entry": ("name", "text"),
    "field": ("number",), "record": (), "output": ("output", "name"), "tree": (), "code": (), "least": (),
}
OK = "ok"
NONE = "none"


def command_parts(command):
    """The first word of any value, if it is a command, and a list of what stands behind it."""
    if not is_text(command):
        raise InvalidCommand("the value is no text")
    if command == "output -":
        return "output", ["", ""]
    word, blank, rest = command.partition(" ")
    if word not in FORMS:
        raise InvalidCommand("no command begins so")
    parts = []
    for role in FORMS[word]:
        if role == "text":
            parts.append(rest)
            return word, parts
        part, blank, rest = rest.partition(" ")
        parts.append(part_in_role(role, part))
    if blank != "":
        raise InvalidCommand("the command goes on too far")
    return word, parts


def part_in_role(role, part):
    """What a part of a command tells in its role."""
    if role == "number":
        digits = [sign for sign in part if is_digit(sign)]
        if not 1 <= len(part) <= MOST_DIGITS or len(digits) < len(part) or part[0] == "0" and part != "0":
            raise InvalidCommand("this is no number")
        return int(part)
    if role == "kind" and part not in KINDS or role == "output" and part not in OUTPUT_KINDS or part == "":
        raise InvalidCommand("this is no kind, or no name")
    return part


def bench_with_input(bench, word, parts):
    """A new bench with the program and the marks of another one, and with one more input."""
    mains, asides = bench.world
    if word == "aside":
        kind, name, text = parts
        if (kind, name) in [row[:2] for row in asides]:
            raise InvalidWorld("there is such an aside")
        world = with_aside(bench.world, kind, name, text, False)
    else:
        world = (mains + ((parts[0], parts[1], word == "input"),), asides)
    made = Bench(bench.program, world)
    for place in bench.marks:
        made.mark(place)
    return made


def do_more(bench, parts):
    bench.more_main(parts[0], parts[1], False)
    return OK


def do_whole(bench, parts):
    bench.more_main(parts[0], "", True)
    return OK


def do_feed(bench, parts):
    bench.more_aside(parts[0], parts[1], parts[2], False)
    return OK


def do_close(bench, parts):
    bench.more_aside(parts[0], parts[1], "", True)
    return OK


def do_go(bench, parts):
    return str(bench.go(parts[0]))


def do_back(bench, parts):
    return str(bench.back(parts[0]))


def do_run(bench, parts):
    return str(bench.run(parts[0]))


def do_mark(bench, parts):
    bench.mark(parts[0])
    return OK


def do_unmark(bench, parts):
    bench.unmark(parts[0])
    return OK


def do_begin(bench, _):
    bench.begin()
    return OK


def do_keep(bench, _):
    bench.keep()
    return OK


def do_drop(bench, _):
    bench.drop()
    return OK


def do_undo(bench, _):
    return bench.undo()[0]


def tell_where(bench, _):
    return " ".join([str(part) for part in bench.end()])


def tell_show(bench, parts):
    return text_of(bench.value(parts[0]))


def tell_entry(bench, parts):
    value = bench.entry(parts[0], parts[1])
    if value is None:
        return NONE
    return text_of(value)


def tell_field(bench, parts):
    text, fields = bench.told()[1][5]
    if parts[0] == 0:
        return text
    if parts[0] > len(fields):
        return NONE
    return fields[parts[0] - 1]


def tell_record(bench, _):
    return bench.told()[1][5][0]


def tell_output(bench, parts):
    text = bench.output(parts[0], parts[1])
    if text is None:
        return NONE
    return text


def tell_tree(bench, _):
    return program_text(bench.program)


def tell_code(bench, _):
    return row_numbers(code_of(bench.program))


def tell_least(bench, _):
    return row_numbers(shortened(code_of(bench.program)))


def row_numbers(code):
    """The numbers of rows of the bodies of a code."""
    return " ".join([str(len(body[2])) for body in code[3]])


# What each command does with a bench and with what stands behind its first word; its answer.
ACTIONS = {
    "more": do_more, "whole": do_whole, "feed": do_feed, "close": do_close, "go": do_go, "back": do_back,
    "run": do_run, "mark": do_mark, "unmark": do_unmark, "begin": do_begin, "keep": do_keep, "drop": do_drop,
    "undo": do_undo, "where": tell_where, "show": tell_show, "entry": tell_entry, "field": tell_field,
    "record": tell_record, "output": tell_output, "tree": tell_tree, "code": tell_code, "least": tell_least,
}


class Console:
    """A bench, once there is one, and commands for it."""

    def __init__(self):
        self._bench = None

    def execute(self, command):
        """Does a command; its answer."""
        word, parts = command_parts(command)
        if word == "program":
            self._bench = Bench(program_of(parts[0]), ((), ()))
            return OK
        if self._bench is None:
            raise NotReady("there is no bench")
        if word in ("input", "start", "aside"):
            self._bench = bench_with_input(self._bench, word, parts)
            return OK
        action = ACTIONS[word]
        return action(self._bench, parts)
