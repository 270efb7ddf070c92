"""[48]: which values are codes, and the code of a program."""

import unittest

import smallmachine
import soundness
from patterndeeds import kinds
from patterndeeds.codes import code_of, is_code
from patterndeeds.errors import KindClash, UnsoundProgram
from patterndeeds.parser import program_of
from patterndeeds.walker import tick_places, walk
from helper import MANY, VALUES, Case, Number, Row, Text, exchanged, leaf_paths, part_at, random_of
from makingruns import Runs

SPECIALS = ("FILENAME", "FNR", "FS", "NF", "NR", "OFS", "ORS", "RLENGTH", "RS", "RSTART", "SUBSEP")
SCALARS = tuple(sorted(SPECIALS + ("s", "x")))
END = ("phase", "end")
GLOBAL, LOCAL = ("global", "a"), ("local", 1)


def code_with(rows, other=(), ranges=1):
    """A code with these rows in the main ahead of the end phase, and these in a function f(value, array)."""
    main = tuple(rows) + (END, ("halt",))
    function = tuple(other) + (("constant", ("unset",)), ("return",))
    return (SCALARS, ("a", "b", "x"), ranges, (("", (), main), ("f", ("value", "array"), function)))


# Instructions that may stand in the main and in functions, and some that may not, beside each.
GOOD = [("constant", ("number", 1, 2)), ("constant", ("text", "a")), ("constant", ("unset",)), ("name", "x"),
        ("name", "NF"), ("range", 0),
        ("field",), ("element", GLOBAL), ("is_in", GLOBAL), ("minus",), ("plus",), ("not",), ("close",), ("key", 1),
        ("key", 10 ** 80),
        ("size", GLOBAL), ("array", GLOBAL), ("set_name", "s"), ("set_name", "NR"), ("set_field",),
        ("set_element", ("global", "x")),
        ("drop",), ("copy",), ("turn", 2), ("turn", 6), ("join",), ("match",), ("split", GLOBAL, 1),
        ("split", GLOBAL, 2),
        ("substitute", True), ("substitute", False), ("print", 1, ""), ("print", 10 ** 80, ">"), ("print", 2, ">>"),
        ("print", 1, "|"),
        ("printf", 1, ""), ("printf", 3, "|"), ("tick", 0), ("tick", 10 ** 80), ("set_range", 0, True),
        ("set_range", 0, False),
        ("clear", GLOBAL), ("delete", GLOBAL), ("jump", 0), ("jump", 2), ("jump_if", True, 0), ("jump_if", False, 1),
        ("walk", GLOBAL),
        ("next_key", 0), ("next_key", 2), ("call", "f", 0), ("call", "f", 1), ("call", "f", 2), ("exit", True),
        ("exit", False)]
GOOD += [("op", operator) for operator in "+-*/@^"]
GOOD += [("compare", operator) for operator in ["<", "<=", "==", "!=", ">", ">="]]
GOOD += [("compare_as", how, operator) for how in ["number", "text"] for operator in ["<", "<=", "==", "!=", ">", ">="]]
GOOD += [("read", kind, into) for kind in ["main", "<", "|"] for into in ["record", "value"]]
GOOD += [("built", word, many) for word, some in [("length", [1]), ("index", [2]), ("substr", [2, 3]),
        ("tolower", [1]), ("toupper", [1]),
                                                 ("int", [1]), ("match", [2]),
                                                 ("sprintf", [1, 2, 10 ** 80])] for many in some]
IN_MAIN = [("record", 0), ("record", 2), ("next", 0), ("next", 2), ("phase", "main"), ("halt",)]
IN_FUNCTIONS = [("local", 0), ("set_local", 0), ("return",), ("element", LOCAL), ("is_in", LOCAL), ("size", LOCAL),
        ("array", LOCAL),
                ("set_element", LOCAL), ("split", LOCAL, 1), ("clear", LOCAL), ("delete", LOCAL), ("walk", LOCAL)]
BAD = [("constant", ("seen", "a")), ("constant", ("number", 2, 2)), ("constant", ("text", "a" * 4001)),
        ("constant", None), ("constant", "a"),
       ("constant", ("number", 10 ** 60 + 1, 1)), ("constant",), ("constant", ("unset",), 1), ("name", "y"),
       ("name", "a"), ("name", 1),
       ("name", None), ("local", 1), ("local", 2), ("local", -1), ("local", True), ("local", "x"), ("set_local", 1),
       ("range", 1), ("range", -1),
       ("range", False), ("range", None), ("field", 1), ("element", ("global", "s")), ("element", ("global", "NF")),
       ("element", ("global", "c")),
       ("element", ("local", 0)), ("element", ("local", 2)), ("element", ("local", -1)), ("element", ("local", True)),
       ("element", ("local", "a")),
       ("element", "a"), ("element", None), ("element", ["global", "a"]), ("element", ("global",)),
       ("element", ("global", "a", 1)),
       ("element", ("own", 0, 0)), ("element", ("Global", "a")), ("element", ("global", None)), ("element",),
       ("key", 0), ("key", -1), ("key", True),
       ("key", None), ("key",), ("size", "a"), ("array", 0), ("set_name", "y"), ("set_name", "b"), ("set_field", 0),
       ("drop", 1), ("copy", 1),
       ("turn", 1), ("turn", 7), ("turn", 0), ("turn", True), ("turn", "2"), ("op", "%"), ("op", "+="), ("op", ""),
       ("op", None), ("op", ["+"]),
       ("op", ("+",)), ("compare", "="), ("compare", "<>"), ("compare", None), ("compare_as", "value", "<"),
       ("compare_as", "<", "number"),
       ("compare_as", "number"), ("compare_as", "text", "~"), ("join", 1), ("built", "length", 0),
       ("built", "length", 2), ("built", "index", 1),
       ("built", "index", 3), ("built", "substr", 1), ("built", "substr", 4), ("built", "tolower", 0),
       ("built", "int", 2), ("built", "sprintf", 0),
       ("built", "match", 1), ("built", "match", 3), ("built", "split", 2), ("built", "sub", 3), ("built", "gsub", 3),
       ("built", "close", 1),
       ("built", "f", 1), ("built", None, 1), ("built", "length", True), ("built", "length", None),
       ("built", "length"), ("split", GLOBAL, 0),
       ("split", GLOBAL, 3), ("split", GLOBAL, True), ("split", 1, 1), ("split", GLOBAL), ("substitute", 1),
       ("substitute", None), ("substitute",),
       ("print", 0, ""), ("print", -1, ">"), ("print", 1, "<"), ("print", 1, None), ("print", True, ""), ("print", 1),
       ("printf", 0, ""),
       ("printf", 1, "main"), ("read", "", "record"), ("read", ">", "record"), ("read", "main", "field"),
       ("read", "main", None), ("read", "main"),
       ("tick", -1), ("tick", True), ("tick", None), ("tick",), ("set_range", 1, True), ("set_range", 0, 1),
       ("set_range", 0), ("set_range", -1, True),
       ("clear", "a"), ("delete",), ("jump", -1), ("jump", 99), ("jump", True), ("jump", None), ("jump",),
       ("jump_if", 1, 0), ("jump_if", True, 99),
       ("jump_if", True, -1), ("jump_if", True, False), ("jump_if", 0), ("walk", "a"), ("walk", ("local", 0)),
       ("next_key", 1), ("next_key", -1),
       ("next_key", 99), ("next_key", True), ("call", "f", 3), ("call", "f", -1), ("call", "f", True),
       ("call", "", 0), ("call", "g", 0),
       ("call", None, 0), ("call", "f"), ("return", 1), ("exit", 1), ("exit", None), ("exit",), ("record", 99),
       ("record", True), ("record",),
       ("next", 99), ("next", -1), ("next",), ("phase", "begin"), ("phase", "over"), ("phase", None), ("phase",),
       ("halt", 0), (), ("unknown",),
       ("",), (None,), (1,), ["drop"], "drop", None, Row(("drop",)), (Text("drop"),), ("key", Number(1)),
       ("name", Text("x")), ("op", Text("+")),
       ("phase", Text("main")), ("read", Text("main"), "record"), ("element", ("own", 1)), ("element", ("Local", 1)),
       ("element", (None, 1)), ("element", (("global",), "a"))]


class TestIsCode(Case):

    def test_instructions(self):
        self.assertIs(is_code(code_with([])), True)
        for row in GOOD:
            self.assertIs(is_code(code_with([row])), True, row)
            self.assertIs(is_code(code_with([], [row])), True, row)
        for row in IN_MAIN:
            self.assertIs(is_code(code_with([row])), True, row)
            self.assertIs(is_code(code_with([], [row])), False, row)
        for row in IN_FUNCTIONS:
            self.assertIs(is_code(code_with([row])), False, row)
            self.assertIs(is_code(code_with([], [row])), True, row)
        for row in BAD:
            self.assertIs(is_code(code_with([row])), False, row)
            self.assertIs(is_code(code_with([], [row])), False, row)

    def test_named_rows(self):
        """A row that is named is one of the same body."""
        for row, named in [(("jump", 0), 1), (("jump_if", True, 0), 2), (("next_key", 0), 1), (("record", 0), 1),
                           (("next", 0), 1)]:
            for number in range(6):
                made = row[:named] + (number,)
                barred = row[0] == "next_key"
                self.assertIs(is_code(code_with([made])), number < 3 and not (barred and number == 1), made)
                if row[0] not in ("record", "next"):
                    other = code_with([], [("not",), made])
                    self.assertIs(is_code(other), number < 4 and not (barred and number == 2), made)

    def test_main(self):
        self.assertIs(is_code(code_with([END])), False)
        self.assertIs(is_code(code_with([], [END])), False)
        code = code_with([])
        self.assertIs(is_code(code[:3] + ((("", (), (("halt",),)),),)), False)
        self.assertIs(is_code(code[:3] + ((("", (), (END,)),),)), True)

    def test_bodies(self):
        scalars, arrays, ranges, (main, function) = code_with([])
        rows = (("constant", ("unset",)), ("return",))
        for bodies, holds in [((main,), True), ((main, function), True), ((main, function, ("g", (), rows)), True),
                ((main, ("g", ("array",) * 3, rows), function), True), ((main, ("NF", (), rows)), True),
                ((main, ("x", (), rows)), True), ((), False),
                ((function,), False), ((function, main), False), ((main, main), False),
                ((main, function, function), False), ([main], False), (main, False),
                ((("", ("value",), main[2]),), False), ((main, ("", (), rows)), False),
                ((main, ("in", (), rows)), False), ((main, ("length", (), rows)), False),
                ((main, ("1", (), rows)), False), ((main, (None, (), rows)), False),
                ((main, ("g", ("open",), rows)), False), ((main, ("g", (None,), rows)), False),
                ((main, ("g", ["value"], rows)), False), ((main, ("g", None, rows)), False),
                ((main, ("g", (), ())), False), ((main, ("g", (), list(rows))), False),
                ((main, ("g", (), None)), False), ((main, ("g", ())), False), ((main, ("g", (), rows, 1)), False),
                ((main, list(function)), False),
                ((Row(main),), False), ((main, (Text("g"), (), rows)), False),
                ((main, ("g", (Text("value"),), rows)), False), (None, False)]:
            self.assertIs(is_code((scalars, arrays, ranges, bodies)), holds, bodies)

    def test_heads(self):
        scalars, arrays, ranges, bodies = (SPECIALS, (), 0, (("", (), (END, ("halt",))),))
        self.assertIs(is_code((scalars, arrays, ranges, bodies)), True)
        for value in [(tuple(sorted(SPECIALS + ("a", "f"))), ("a", "b"), 7, bodies),
                (scalars, ("a",), 10 ** 80, bodies)]:
            self.assertIs(is_code(value), True)
        for value in VALUES + [(scalars, arrays, ranges), (scalars, arrays, ranges, bodies, ()),
                [scalars, arrays, ranges, bodies],
                Row((scalars, arrays, ranges, bodies)), (SPECIALS[1:], arrays, ranges, bodies),
                (SPECIALS[::-1], arrays, ranges, bodies),
                (SPECIALS + ("a", "a"), arrays, ranges, bodies), (SPECIALS + ("b", "a"), arrays, ranges, bodies),
                (list(SPECIALS), arrays, ranges, bodies),
                (SPECIALS + ("in",), arrays, ranges, bodies), (SPECIALS + (None,), arrays, ranges, bodies),
                ("".join(SPECIALS), arrays, ranges, bodies),
                (SPECIALS + (Text("x"),), arrays, ranges, bodies), (scalars, ("NF",), ranges, bodies),
                (scalars, ("b", "a"), ranges, bodies),
                (scalars, ("a", "a"), ranges, bodies), (scalars, ["a"], ranges, bodies),
                (scalars, ("length",), ranges, bodies), (scalars, None, ranges, bodies),
                (scalars, (1,), ranges, bodies), (scalars, arrays, -1, bodies), (scalars, arrays, True, bodies),
                (scalars, arrays, None, bodies),
                (scalars, arrays, Number(1), bodies), (scalars, arrays, (), bodies)]:
            self.assertIs(is_code(value), False, value)

    def test_one_part_exchanged(self):
        code = code_of(program_of("BEGIN { x = 1 } $1, $2 { for (k in a) { n[k] = f(a, x); next } } "
                                  "function f(p, q) { p[q]; return q }"))
        self.assertIs(is_code(code), True)
        for path in leaf_paths(code):
            for worth in [None, "", "x", 0, 99, True, (), ("drop",), [], ("global", "a"), ("halt",), "value"]:
                value = exchanged(code, path, worth)
                found = is_code(value)
                self.assertIs(type(found), bool)
                if part_at(code, path) == worth and type(part_at(code, path)) is type(worth):
                    self.assertIs(found, True)
                elif worth is None or worth == []:
                    self.assertIs(found, False, path)


TREES = """x # x = 1 # x += 1 # x++ # --x # a[1] # a[1, 2] = 3 # a[x] @= y # a[1]-- # ++a[1] # $1 # $1 = 2 #
$(x) ^= 2 # $x++ # --$x # x ? y : z # x || y # x && y # 1 in a # (1, x) in a # x ~ y # x !~ /a/ # x ~ /a/ #
/a/ # x < y # x y # x + y # !x # -x # +x # f() # f(1) # f(1, a) # f(x, b, 3) # length # length(x) #
length(a) # index(x, y) # substr(x, 1) # substr(x, 1, 2) # split(x, a) # split(x, a, /b/) #
split(x, a, /bc/) # split(x, a, y) # sub(/a/, x) # gsub(y, x, z) # sub(/a/, x, a[1]) # gsub(/a/, x, $2) #
match(x, /a/) # match(x, y) # sprintf(x) # sprintf(x, y, z) # tolower(x) # toupper(x) # int(x) # close(x) #
getline # getline x # getline a[1] # getline $1 # getline < x # getline y < x # getline a[y] < x #
getline $y < x # x | getline # x | getline y # x | getline a[y] # x | getline $y # 1.5 # "t" #
x = y = z = 1 # print x # print > x # printf x, y # print x, y >> z # printf x | y # delete a #
delete a[x, y] # exit # exit x # next # if (x) y; else z # if (x) y""".split("#")
TREES = [source.strip() for source in TREES]
HEADS = ["{ print E, 1 }", "{ print 1, 2 > \"o\" E }", "{ if (E) x; else y }", "{ while (E) break }",
        "{ do x; while (E) }", "E",
         "E, E { next }", "{ for (E; E; E) continue }", "{ exit E }", "{ printf E, x }"]
STATEMENTS = ["print", "printf", "delete", "exit", "next", "if"]
MORE = "\nfunction f(p, q, r) { q[p] = r }"


class TestCodeOf(Case):

    def code(self, source):
        made = code_of(program_of(source))
        self.assertIs(is_code(made), True)
        soundness.shapes(made)
        return made

    def test_heads(self):
        source = """x, y { b[1] = z }
        $1, $2
        function g(q, r) { q[r]; length(w) }
        function f(a, b, c) { g(a); b; a[1]; NR in d }
        { f(e) }
        1, 2 { }"""
        program = program_of(source)
        code = self.code(source)
        self.assertEqual(code[0], kinds.scalars(program))
        self.assertEqual(code[1], kinds.arrays(program))
        self.assertEqual((code[1], code[2]), (("b", "d", "e"), 3))
        self.assertEqual([body[:2] for body in code[3]], [("", ()), ("g", ("array", "value")),
                ("f", ("array", "value", "value"))])
        self.assertEqual(self.code("")[:3], (SPECIALS, (), 0))

    def test_errors(self):
        self.raises(UnsoundProgram, code_of, program_of("{ break; x = 1; x[1] }"))
        found = self.raises(KindClash, code_of, program_of("{ x = 1; x[1] }"))
        self.assertEqual(found.chain, [("", "x")])

    def test_each_kind_of_tree(self):
        """A code of each kind of statement and expression is sound, with the ticks of its places."""
        for source in TREES:
            self.code("{ " + source + " }" + MORE)
            for head in HEADS:
                if source.split()[0] not in STATEMENTS:
                    self.code(head.replace("E", "(" + source + ")") + MORE)
        for source in ["function f(p) { return p } { f(1) }",
                "function f(p) { for (p in q) { for (x in q) { break }; continue; return 1 } }",
                       "function f(p) { for (k in p) if (k) return k; else exit }", "{ for (k in a) next }",
                       "{ for (k in a) { for (j in a) break; break } }", "{ for (;;) { } }",
                       "{ while (1) for (k in a) { delete a; delete a[1, 2]; continue } }", "{ next; next; exit; x }",
                       "{ do break; while (1); x }",
                       "BEGIN { exit 1 } END { exit }", "BEGIN { }", "END { }", "{ }", "$1", "1, 2", "1, 2 { exit }",
                       "function f() { while (1) { } }"]:
            self.code(source)

    def test_rows(self):
        """What rows must be there for some programs."""
        code = self.code("BEGIN { print }")
        self.assertEqual([row for row in code[3][0][2] if row[0] == "tick"], [("tick", 1), ("tick", 2)])
        self.assertEqual([row for row in code[3][0][2] if row[0] == "record"], [])
        code = self.code("END { } { x } BEGIN { y } 1, 2")
        ticks = [row[1] for row in code[3][0][2] if row[0] == "tick"]
        self.assertEqual(sorted(ticks), [0, 1, 2, 3, 4, 5, 6])
        self.assertEqual(ticks, [4, 5, 0, 2, 3, 6, 1])
        code = self.code("{ for (x; y; z) if (x) y; else z } function f() { do x; while (y) }")
        self.assertEqual([sorted(row[1] for row in body[2] if row[0] == "tick") for body in code[3]],
                [[0, 1, 2, 3, 4, 5, 6, 7], [8, 9]])

    def test_small_machine(self):
        """A small machine does with the code what the walker does, tick by tick."""
        random = random_of("machine")
        maker = Runs(random)
        for _ in range(250 * MANY):
            program, world = maker.program(random.choice([3, 4, 5])), maker.world()
            self.assertTrue(kinds.is_sound(program))
            code = code_of(program)
            self.assertIs(is_code(code), True)
            soundness.shapes(code)
            self.assertEqual(code[:3], (kinds.scalars(program), kinds.arrays(program),
                    [rule[0] for rule in program[0]].count("range")))
            for count in [0, 1, 2, random.randrange(3, 40), 40]:
                outcome, ticks = smallmachine.outcome(code, world, count)
                self.assertEqual(walk(program, world, count), outcome, (program, world, count))
                self.assertEqual(tick_places(program, world, count), ticks)


if __name__ == "__main__":
    unittest.main()
