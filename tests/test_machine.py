"""[52] to [54]: the machine, instruction by instruction."""

import unittest

import smallmachine
from makingcodes import ARRAYS, END, SCALARS, Codes
from makingruns import Runs
from patterndeeds.codes import code_of
from patterndeeds.errors import InvalidCode, InvalidCount, InvalidHeld, InvalidWorld, UnsoundCode
from patterndeeds.machine import begun, end_of, fits, go, outcome, step, told
from patterndeeds.parser import program_of
from patterndeeds.walker import walk
from patterndeeds.worlds import cut_world, with_aside, with_main
from helper import MANY, VALUES, Case, exchanged, random_of

A, B = ("global", "a"), ("global", "b")
WORLD = ((("m", "1 2\n3 4\n", True),), (("<", "f", "one\ntwo", False), ("|", "f", "three\n", True)))
TAIL = (END, ("halt",))
F = ("f", ("value", "array", "value"), (("tick", 5), ("local", 0), ("return",)))
DEEP = ("g", (), (("call", "g", 0), ("return",)))


def num(top, bottom=1):
    return ("number", top, bottom)


def text(one):
    return ("text", one)


def put(*values):
    """Instructions that put values on the stack."""
    return [("constant", one) for one in values]


def code_with(rows, *more):
    """A code with these rows in its main."""
    return (SCALARS, ARRAYS, 2, (("", (), tuple(rows) + TAIL), F, DEEP) + more)


def stepped(code, world, held, many):
    """The held state behind so many steps, and the events."""
    events = []
    for _ in range(many):
        held, event = step(code, world, held)
        if event is not None:
            events.append(event)
    return held, events


# Rows that come ahead, the instruction, the stack behind it or the word of its error, and its event.
STEPS = [
    ([], ("constant", text("a")), [text("a")], None),
    (put(num(7)) + [("set_name", "x"), ("drop",)], ("name", "x"), [num(7)], None),
    ([], ("name", "RLENGTH"), [num(-1)], None),
    ([], ("range", 1), [num(0)], None),
    ([("set_range", 1, True)], ("range", 1), [num(1)], None),
    ([("record", 0)] + put(num(2)), ("field",), [("seen", "2")], None),
    ([("record", 0)] + put(num(3)), ("field",), [("unset",)], None),
    (put(num(-1)), ("field",), "field", None),
    (put(text("k")), ("element", A), [("unset",)], None),
    (put(text("k")), ("is_in", A), [num(0)], None),
    (put(text("k")) + [("element", A), ("drop",)] + put(text("k")), ("is_in", A), [num(1)], None),
    (put(text("1.5x")), ("minus",), [num(-3, 2)], None),
    (put(text("1" * 61)), ("minus",), "great", None),
    (put(text(" 4 ")), ("plus",), [num(4)], None),
    (put(text("1" * 61)), ("plus",), "great", None),
    (put(text("0")), ("not",), [num(0)], None),
    (put(text("f")), ("close",), [num(-1)], ("close", "f")),
    (put(text("f")) + [("read", "<", "value"), ("drop",), ("drop",)] + put(text("f")), ("close",), [num(0)],
     ("close", "f")),
    (put(num(1, 2)), ("key", 1), [text("0.5")], None),
    (put(text("p"), text("q"), num(1)), ("key", 3), [text("p\tq\t1")], None),
    (put(text("p" * 2000), text("q" * 2000)), ("key", 2), "long", None),
    (put(text("k")) + [("element", A), ("drop",)], ("size", A), [num(1)], None),
    ([], ("array", B), [("global", "b")], None),
    (put(text("v")), ("set_name", "x"), [text("v")], None),
    (put(num(3)), ("set_name", "NF"), [num(3)], None),
    (put(num(4002)), ("set_name", "NF"), "field", None),
    (put(text("v"), num(2)), ("set_field",), [text("v")], None),
    (put(text("v"), num(4002)), ("set_field",), "field", None),
    (put(text("v"), text("k")), ("set_element", A), [text("v")], None),
    (put(text("v"), text("w")), ("drop",), [text("v")], None),
    ([("walk", A)], ("drop",), [], None),
    (put(text("v"), text("w")), ("copy",), [text("v"), text("w"), text("w")], None),
    (put(num(1), num(2), num(3)), ("turn", 3), [num(2), num(3), num(1)], None),
    (put(num(1), num(2), num(3)), ("turn", 2), [num(1), num(3), num(2)], None),
    (put(num(7), num(2)), ("op", "-"), [num(5)], None),
    (put(num(7), num(0)), ("op", "/"), "divide", None),
    (put(num(7), num(1, 2)), ("op", "^"), "power", None),
    (put(num(10 ** 60), num(2)), ("op", "*"), "great", None),
    (put(text("10"), text("9")), ("compare", "<"), [num(1)], None),
    (put(num(10), num(9)), ("compare", "<"), [num(0)], None),
    (put(text("10"), text("9")), ("compare_as", "number", "<"), [num(0)], None),
    (put(text("10"), text("9")), ("compare_as", "number", ">"), [num(1)], None),
    (put(num(10), num(9)), ("compare_as", "text", "<"), [num(1)], None),
    (put(num(9), text("9x")), ("compare_as", "number", "=="), [num(1)], None),
    (put(num(9), text("9.0")), ("compare_as", "text", "!="), [num(1)], None),
    (put(text("7" * 90), text("8" * 90)), ("compare_as", "number", "<="), [num(1)], None),
    (put(("unset",), num(0)), ("compare_as", "text", "=="), [num(0)], None),
    (put(("unset",), num(0)), ("compare_as", "number", ">="), [num(1)], None),
    (put(num(1), text("b")), ("join",), [text("1b")], None),
    (put(text("p" * 4000), text("b")), ("join",), "long", None),
    (put(text("xab"), text("b$")), ("match",), [num(1)], None),
    (put(text("xab"), text("(")), ("match",), "pattern", None),
    (put(text("xab"), text("a")), ("built", "index", 2), [num(2)], None),
    (put(text("xab"), text("b")), ("built", "match", 2), [num(3)], None),
    (put(text("xab"), text("*")), ("built", "match", 2), "pattern", None),
    (put(text("@"), num(1)), ("built", "sprintf", 2), "format", None),
    (put(text("@d"), num(1)), ("built", "sprintf", 2), [text("1")], None),
    (put(text("a b")), ("split", A, 1), [num(2)], None),
    (put(text("a,b,c"), text(",")), ("split", A, 2), [num(3)], None),
    (put(text("a,b,c"), text(",(")), ("split", A, 2), "pattern", None),
    (put(text("aab"), text("a"), text("<&>")), ("substitute", True), [text("<a><a>b"), num(2)], None),
    (put(text("aab"), text("a"), text("<&>")), ("substitute", False), [text("<a>ab"), num(1)], None),
    (put(text("aab"), text("["), text("")), ("substitute", False), "pattern", None),
    (put(text("p"), num(1)), ("print", 2, ""), [], ("write", "", "", "p 1\n")),
    (put(text("p"), num(1), text("o")), ("print", 2, ">"), [], ("write", ">", "o", "p 1\n")),
    (put(text("p" * 4000)), ("print", 1, ""), "long", None),
    (put(text("p" * 3999)), ("print", 1, ""), [], ("write", "", "", "p" * 3999 + "\n")),
    (put(text("@s!"), num(1), text("o")), ("printf", 2, ">>"), [], ("write", ">>", "o", "1!")),
    (put(text("@s!"), text("o")), ("printf", 1, "|"), "format", None),
    ([], ("read", "main", "record"), [num(1)], ("read", "main", "m", "1 2")),
    ([], ("read", "main", "value"), [("seen", "1 2"), num(1)], ("read", "main", "m", "1 2")),
    (put(text("f")), ("read", "<", "value"), [("seen", "one"), num(1)], ("read", "<", "f", "one")),
    (put(text("f")), ("read", "|", "record"), [num(1)], ("read", "|", "f", "three")),
    (put(text("g")), ("read", "|", "value"), [("unset",), num(-1)], None),
    (put(text("f")) + [("read", "|", "record"), ("drop",)] + put(text("f")), ("read", "|", "value"),
     [("unset",), num(0)], None),
    (put(text("((")) + [("set_name", "RS"), ("drop",)] + put(text("f")), ("read", "|", "value"), "pattern", None),
    (put(text("((")) + [("set_name", "RS"), ("drop",)], ("read", "main", "value"), "pattern", None),
    (put(text("((")) + [("set_name", "FS"), ("drop",)], ("read", "main", "record"), "pattern", None),
    (put(text("9" * 61)) + [("set_name", "NR"), ("drop",)], ("read", "main", "record"), "great", None),
    ([], ("tick", 8), [], None),
    ([], ("set_range", 0, True), [], None),
    ([], ("clear", A), [], None),
    (put(text("k")), ("delete", A), [], None),
    ([], ("walk", B), [("walk", ("global", "b"), ())], None),
    (put(text("l")) + [("element", A), ("drop",)] + put(text("k")) + [("element", A), ("drop",)], ("walk", A),
     [("walk", ("global", "a"), ("k", "l"))], None),
    (put(num(1)) + [("array", A)], ("call", "f", 2), [], None),
    ([("set_range", 0, True)], ("call", "g", 0), [], None),
    ([("record", 0)], ("record", 0), [], ("read", "main", "m", "3 4")),
    (put(text("k")) + [("set_name", "RS"), ("drop",)], ("record", 0), [], ("read", "main", "m", "1 2\n3 4\n")),
    (put(text("((")) + [("set_name", "RS"), ("drop",)], ("record", 0), "pattern", None),
]


class TestSteps(Case):

    def test_each_instruction(self):
        for rows, row, wanted, event in STEPS:
            # A tick at the beginning, so that a row may go back to it.
            rows = [("tick", 0)] + [("record", at + 2) if one[0] == "record" else one for at, one in enumerate(rows)]
            if row[0] == "record":
                row = ("record", len(rows) + 1)
            code = code_with(rows + [row] + [("exit", False)])
            held = stepped(code, WORLD, begun(code), len(rows))[0]
            self.assertEqual((held[0], held[2]), (None, (0, len(rows))), row)
            wanted_end = ("tick", row[1]) if row[0] == "tick" else ("step",)
            self.assertEqual(end_of(code, WORLD, held), wanted_end, row)
            new, found = step(code, WORLD, held)
            self.assertIs(fits(code, WORLD, new), True)
            if type(wanted) is str:
                self.assertEqual((new, found), ((("error", wanted, 0),) + held[1:], None), row)
                self.assertEqual(end_of(code, WORLD, new), ("error", wanted, 0))
                self.assertEqual(step(code, WORLD, new), (new, None))
            else:
                self.assertEqual((list(new[3]), found), (wanted, event), row)
                if row[0] != "call":
                    self.assertEqual(new[2], (0, len(rows) + 1))
                self.assertEqual(new[1], row[1] if row[0] == "tick" else 0)

    def test_what_changes(self):
        """What instructions change besides the stack."""
        for rows, row, path, wanted in [
                (put(text("v")), ("set_name", "x"), ("scalar", "x"), text("v")),
                (put(num(2)), ("set_name", "NF"), ("record",), (" ", ("", ""))),
                (put(text("v"), num(2)), ("set_field",), ("record",), (" v", ("", "v"))),
                (put(text("v w"), num(0)), ("set_field",), ("scalar", "NF"), num(2)),
                (put(text("v"), text("k")), ("set_element", A), ("array", "a"), (("k", text("v")),)),
                (put(text("k")), ("element", A), ("array", "a"), (("k", ("unset",)),)),
                (put(text("k")), ("is_in", A), ("array", "a"), ()),
                (put(text("a b")), ("split", A, 1), ("array", "a"), (("1", ("seen", "a")), ("2", ("seen", "b")))),
                ([], ("set_range", 1, True), ("ranges",), (False, True)),
                (put(text("abc"), text("bc")), ("built", "match", 2), ("scalar", "RLENGTH"), num(2)),
                (put(text("p")), ("print", 1, ""), ("outputs",), (("", "", "p\n", True),)),
                ([], ("read", "main", "value"), ("readers",), (0, 4, ())),
                ([], ("read", "main", "value"), ("record",), ("", ())),
                ([], ("read", "main", "record"), ("record",), ("1 2", ("1", "2"))),
                ([], ("read", "main", "value"), ("scalar", "FILENAME"), text("m")),
                (put(text("f")), ("read", "<", "value"), ("readers",), (-1, 0, (("<", "f", 4),))),
                (put(text("f")), ("read", "<", "value"), ("scalar", "NR"), num(0)),
                (put(text("f")), ("read", "|", "value"), ("scalar", "NR"), num(1)),
                ([], ("phase", "main"), ("phase",), "main")]:
            code = code_with([("tick", 0)] + rows + [row, ("exit", False)])
            held = stepped(code, WORLD, begun(code), len(rows) + 2)[0]
            room = dict(zip(["phase", "code", "scalars", "arrays", "ranges", "record", "readers", "outputs"], held[5]))
            for name in ["scalar", "array"]:
                room.update({(name, key): worth for key, worth in room[name + "s"]})
            self.assertEqual(room[path if len(path) == 2 else path[0]], wanted, row)

    def test_walks(self):
        rows = put(text("k")) + [("element", A), ("drop",)] + put(text("l")) + [("element", A), ("drop",)]
        code = code_with(rows + [("walk", A)] + put(text("k"))[:1] + [("delete", A), ("tick", 1), ("next_key", 13),
                ("drop",), ("jump", 9), ("exit", False)])
        held = stepped(code, WORLD, begun(code), 10)[0]
        self.assertEqual(held[3], (("walk", A, ("k", "l")),))
        held = step(code, WORLD, held)[0]
        self.assertEqual((held[3], held[2]), ((("walk", A, ()), text("l")), (0, 11)))
        held = stepped(code, WORLD, held, 4)[0]
        self.assertEqual((held[3], held[2]), ((), (0, 13)))

    def test_going(self):
        for row, truth, going in [(("jump", 4), None, 4), (("jump_if", True, 4), num(1), 4), (("jump_if", True, 4),
                num(0), 3),
                (("jump_if", False, 4), num(0), 4), (("jump_if", False, 4), text("a"), 3),
                (("jump_if", True, 4), text("0"), 4), (("jump_if", False, 4), ("unset",), 4)]:
            ahead = put(truth) if truth else [("tick", 0)]
            code = code_with([("tick", 7)] + ahead + [row, ("tick", 1), ("exit", False)])
            held = stepped(code, WORLD, begun(code), 3)[0]
            self.assertEqual((held[2], held[3]), ((0, going), ()))
        code = code_with([("tick", 0)] + put(num(1), num(2)) + [("walk", A), ("next", 0)])
        held = stepped(code, WORLD, begun(code), 5)[0]
        self.assertEqual((held[2], held[3]), ((0, 0), ()))

    def test_calls(self):
        """Calls with fewer arguments, arrays handed on, own tables, and what a return takes away."""
        inner = ("h", ("array", "value", "array"), (("tick", 6), ("walk", ("local", 0)), ("local", 1), ("array",
                ("local", 2)),
                ("constant", num(5)), ("return",)))
        outer = ("k", ("array", "array"), (("tick", 4), ("constant", num(9)), ("array", ("local", 1)), ("constant",
                num(8)),
                ("array", ("local", 0)), ("call", "h", 3), ("return",)))
        code = code_with([("tick", 2)] + put(text("below")) + [("array", A), ("call", "k", 1), ("exit", False)], inner,
                outer)
        held = stepped(code, WORLD, begun(code), 4)[0]
        self.assertEqual(held[1:5], (2, (4, 0), (text("below"),), (("k", (A, ("table", ())), 1, (0, 4, 2)),)))
        self.assertEqual(told(code, held)[2], (("k", (A, ("table", ()))),))
        held = stepped(code, WORLD, held, 6)[0]
        self.assertEqual(held[1:4], (4, (3, 0), (text("below"), num(9))))
        self.assertEqual(held[4][1], ("h", (("own", 0, 1), num(8), A), 2, (4, 6, 4)))
        held = stepped(code, WORLD, held, 5)[0]
        self.assertEqual(held[3][2:], (("walk", ("own", 0, 1), ()), num(8), A, num(5)))
        held = step(code, WORLD, held)[0]
        self.assertEqual(held[1:4], (4, (4, 6), (text("below"), num(9), num(5))))
        held = step(code, WORLD, held)[0]
        self.assertEqual(held[1:5], (2, (0, 4), (text("below"), num(5)), ()))
        held = stepped(code_with([("call", "f", 0), ("exit", False)]), WORLD, begun(code_with([("call", "f", 0),
                ("exit", False)])), 1)[0]
        self.assertEqual(held[4], (("f", (("unset",), ("table", ()), ("unset",)), 0, (0, 1, 0)),))

    def test_too_deep(self):
        code = code_with([("tick", 3), ("call", "g", 0), ("exit", False)])
        held = stepped(code, WORLD, begun(code), 17)[0]
        self.assertEqual((held[0], len(held[4])), (None, 16))
        new = step(code, WORLD, held)[0]
        self.assertEqual(new, (("error", "deep", 3),) + held[1:])

    def test_exits(self):
        function = ("h", (), (("tick", 5), ("constant", num(7, 2)), ("constant", num(-7, 2)), ("exit", True)))
        code = code_with([("tick", 1)] + put(num(1)) + [("walk", A), ("call", "h", 0), ("exit", False)], function)
        end = code[3][0][2].index(END)
        held = stepped(code, WORLD, begun(code), 8)[0]
        self.assertEqual(held[:5], (None, 1, (0, end), (), ()))
        self.assertEqual(held[5][:2], ("begin", -3))
        held = stepped(code, WORLD, held, 2)[0]
        self.assertEqual(held[:5], (("over", -3), 1, (0, end), (), ()))
        self.assertEqual((held[5][0], end_of(code, WORLD, held)), ("over", ("over", -3)))
        self.assertEqual(step(code, WORLD, held), (held, None))
        code = (SCALARS, ARRAYS, 2, (("", (), (END, ("tick", 1)) + tuple(put(num(1))) + (("call", "h", 0), ("exit",
                False))),
                function))
        held = stepped(code, WORLD, begun(code), 8)[0]
        self.assertEqual(held[:5], (("over", -3), 1, (0, 0), (), ()))
        code = code_with([("tick", 1)] + put(text("9" * 61)) + [("exit", True)])
        held = stepped(code, WORLD, begun(code), 3)[0]
        self.assertEqual((held[0], held[5][1], len(held[3])), (("error", "great", 1), 0, 1))

    def test_waiting(self):
        """What waits changes nothing until more is told."""
        world = ((("m", "a\nb", False), ("n", "c", True)), (("<", "f", "x", False),))
        for rows, row, event in [([], ("record", 9), ("read", "main", "m", "b")), ([], ("read", "main", "value"),
                ("read", "main", "m", "b")), ([], ("read", "main", "record"), ("read", "main", "m", "b")),
                (put(text("f")), ("read", "<", "record"), ("read", "<", "f", "x"))]:
            ahead = [("tick", 2), ("read", "main", "value"), ("drop",), ("drop",)] + rows
            row = ("record", len(ahead) + 1) if row[0] == "record" else row
            code = code_with(ahead + [row, ("exit", False)])
            held = stepped(code, world, begun(code), len(ahead))[0]
            self.assertEqual(end_of(code, world, held), ("more", 2))
            self.assertEqual(step(code, world, held), (held, None))
            self.assertEqual(go(code, world, held, 5), (0, ("more", 2), held, []))
            more = with_aside(with_main(world, 0, "", True), "<", "f", "\n", False)
            self.assertEqual(end_of(code, more, held), ("step",))
            self.assertEqual(step(code, more, held)[1], event)

    def test_a_file_without_records(self):
        """A further file that is not settled is not gone on to."""
        world = ((("m", "", True), ("n", "", False)), ())
        code = code_with([("tick", 0), ("record", 3), ("tick", 1)])
        held = stepped(code, world, begun(code), 1)[0]
        self.assertEqual(step(code, world, held), (held, None))
        world = with_main(world, 1, "", True)
        held = step(code, world, held)[0]
        self.assertEqual((held[5][6], dict(held[5][2])["FILENAME"], held[2]), ((1, 0, ()), text("n"), (0, 3)))


class TestRuns(Case):

    def test_against_a_small_machine(self):
        random = random_of("machine codes")
        maker = Codes(random)
        for _ in range(150 * MANY):
            code, world = maker.code(random.choice([10, 20, 40])), maker.world()
            for count in [0, 1, 2, random.randrange(3, 30)]:
                self.assertEqual(outcome(code, world, count), smallmachine.outcome(code, world, count)[0], (code,
                        world))

    def test_walk(self):
        """[M4], whole and step by step."""
        random = random_of("walks")
        maker = Runs(random)
        for _ in range(80 * MANY):
            program, world = maker.program(random.choice([3, 4, 5])), maker.world()
            code = code_of(program)
            for count in range(0, 30, 3):
                self.assertEqual(outcome(code, world, count), walk(program, world, count))

    def test_steps_and_pieces(self):
        """[M1], [M2], [M3]: steps, pieces of every size, and the whole tell the same."""
        random = random_of("pieces")
        maker, codes = Runs(random), Codes(random)
        for at in range(40 * MANY):
            world = maker.world()
            code = code_of(maker.program(4)) if at % 2 else codes.code(30)
            whole = go(code, world, begun(code), 12)
            for size in [1, 2, 3, 5]:
                held, ticks, events = begun(code), 0, []
                while ticks < 12:
                    count = min(size, 12 - ticks)
                    done, end, held, more = go(code, world, held, count)
                    self.assertIs(fits(code, world, held), True)
                    ticks, events = ticks + done, events + more
                    if done < count:
                        break
                self.assertEqual((ticks, end, held, events), whole)
            self.assertEqual(outcome(code, world, 12), (whole[0], whole[1], told(code, whole[2]), whole[3]))
            self.check_steps(code, world, whole)

    def check_steps(self, code, world, whole):
        held, ticks, events = begun(code), 0, []
        for _ in range(400):
            end = end_of(code, world, held)
            if end[0] not in ("step", "tick") or end[0] == "tick" and ticks == 12:
                self.assertEqual((ticks, end, held, events), whole)
                return
            new, event = step(code, world, held)
            self.assertIs(fits(code, world, new), True)
            if end[0] == "tick":
                ticks += 1
                self.assertEqual(new[1], end[1])
            self.assertTrue(new != held and (new[0] is None or new[0][0] in ("error", "over")))
            if new[0] is not None and new[0][0] == "error":
                self.assertEqual(new[1:], held[1:])
            events += [event] if event is not None else []
            held = new

    def test_more(self):
        """[M5]: what waits goes on in a world that has more."""
        random = random_of("more")
        maker, codes = Runs(random), Codes(random)
        waited = 0
        for at in range(100 * MANY):
            whole = maker.world()
            whole = (tuple(row[:2] + (True,) for row in whole[0]), whole[1])
            code = code_of(maker.program(3)) if at % 2 else codes.code(30)
            numbers = [random.randrange(len(row[1]) + 1) for row in whole[0]]
            part = cut_world(whole, numbers)
            ticks, end, held, events = go(code, part, begun(code), 30)
            waited += end[0] == "more"
            more = go(code, whole, held, 30 - ticks) if end[0] in ("more", "tick") else (0, end, held, [])
            self.assertEqual((ticks + more[0], more[1], more[2], events + more[3]), go(code, whole, begun(code), 30))
        self.assertGreater(waited, 10)

    def test_beginning(self):
        code = code_of(program_of("1, 2 { a[1] = x }"))
        held = begun(code)
        self.assertEqual(held[:5], (None, 0, (0, 0), (), ()))
        self.assertEqual(told(code, held), walk(program_of("1, 2 { a[1] = x }"), ((), ()), 0)[2][:0] + (0, held[5], ()))
        self.assertEqual(held[5], ("begin", 0, tuple((name, {"FS": text(" "), "OFS": text(" "), "RS": text("\n"),
                "ORS": text("\n"), "SUBSEP": text("\t"), "FILENAME": text(""), "RLENGTH": num(-1), "x": ("unset",)}.get(
                    name, num(0))) for name in code[0]), (("a", ()),), (False,), ("", ()), (-1, 0, ()), ()))

    def test_errors(self):
        code, world = code_with([("tick", 0)]), WORLD
        held, bad = begun(code), code_with([("drop",)])
        for count in [-1, True, None, "1", (), -10 ** 80]:
            self.raises(InvalidCount, go, code, world, held, count)
            self.raises(InvalidCount, outcome, code, world, count)
        for value in VALUES:
            self.raises(InvalidCode, begun, value)
            self.raises(InvalidCode, go, value, None, None, None)
            self.raises(InvalidCode, outcome, value, None, None)
            self.raises(InvalidCode, told, value, None)
            self.raises(InvalidHeld, go, code, world, value, None)
            self.raises(InvalidHeld, told, code, value)
            if value != ((), ()):
                self.raises(InvalidWorld, go, code, value, None, None)
                self.raises(InvalidWorld, outcome, code, value, None)
        for action, values in [(begun, ()), (go, (None,) * 3), (outcome, (None, None)), (told, (None,)), (step,
                (None,) * 2),
                (end_of, (None,) * 2), (fits, (None,) * 2)]:
            self.raises(UnsoundCode, action, bad, *values)
        self.raises(InvalidHeld, go, code, ((), ()), exchanged(held, (5, 6), (0, 0, ())), 1)


if __name__ == "__main__":
    unittest.main()
