"""[56], [57]: passes that fold, trim and sweep."""

import unittest

import slowpasses
import soundness
from makingcodes import ARRAYS, END, SCALARS, Codes
from makingruns import Runs
from patterndeeds.codes import code_of, is_code
from patterndeeds.errors import InvalidCode, UnsoundCode
from patterndeeds.folding import folded, swept, trimmed
from patterndeeds.machine import outcome
from patterndeeds.parser import program_of
from helper import MANY, VALUES, Case, random_of

TAIL = (END, ("halt",))
UNSET = ("constant", ("unset",))


def con(top, bottom=1):
    return ("constant", ("number", top, bottom))


def txt(one):
    return ("constant", ("text", one))


def code_with(rows, function=(UNSET, ("return",))):
    return (SCALARS, ARRAYS, 1, (("", (), tuple(rows) + TAIL), ("f", ("value",), tuple(function))))


X, Y = ("set_name", "x"), ("set_name", "y")
# For each pass the rows ahead of the end phase and those behind it, None if they stay.
FOLDS = [
    ([con(2), con(3), ("op", "+"), X, ("drop",)], [con(5), X, ("drop",)]),
    ([con(7), con(2), ("op", "@"), X, ("drop",)], [con(1), X, ("drop",)]),
    ([con(1), con(0), ("op", "/"), X, ("drop",)], None),
    ([con(1), con(1, 2), ("op", "^"), X, ("drop",)], None),
    ([con(10 ** 60), con(2), ("op", "*"), X, ("drop",)], None),
    ([con(10 ** 60), con(1), ("op", "*"), X, ("drop",)], [con(10 ** 60), X, ("drop",)]),
    ([txt("10"), con(9), ("compare", "<"), X, ("drop",)], [con(1), X, ("drop",)]),
    ([UNSET, con(0), ("compare", "=="), X, ("drop",)], [con(1), X, ("drop",)]),
    ([con(1), con(2), ("compare_as", "number", "<"), X, ("drop",)], None),
    ([txt("a"), con(1, 2), ("join",), X, ("drop",)], [txt("a0.5"), X, ("drop",)]),
    ([txt("a" * 2000), txt("b" * 2000), ("join",), X, ("drop",)], [txt("a" * 2000 + "b" * 2000), X, ("drop",)]),
    ([txt("a" * 2000), txt("b" * 2001), ("join",), X, ("drop",)], None),
    ([txt("abc"), txt("b+"), ("match",), X, ("drop",)], [con(1), X, ("drop",)]),
    ([txt("abc"), txt("("), ("match",), X, ("drop",)], None),
    ([txt("1.5x"), ("minus",), X, ("drop",)], [con(-3, 2), X, ("drop",)]),
    ([txt("1" * 61), ("minus",), X, ("drop",)], None),
    ([txt("1" * 61), ("plus",), X, ("drop",)], None),
    ([txt(" 3"), ("plus",), X, ("drop",)], [con(3), X, ("drop",)]),
    ([txt("0"), ("not",), X, ("drop",)], [con(0), X, ("drop",)]),
    ([con(1, 3), ("key", 1), X, ("drop",)], [txt("0.333333"), X, ("drop",)]),
    ([con(1), con(2), ("key", 2), X, ("drop",)], None),
    ([txt("aB"), ("built", "toupper", 1), ("built", "length", 1), X, ("drop",)], [con(2), X, ("drop",)]),
    ([txt("a@@"), ("built", "sprintf", 1), X, ("drop",)], [txt("a@"), X, ("drop",)]),
    ([txt("a@d"), ("built", "sprintf", 1), X, ("drop",)], None),
    ([con(-7, 2), ("built", "int", 1), X, ("drop",)], [con(-3), X, ("drop",)]),
    ([txt("1" * 61), ("built", "int", 1), X, ("drop",)], None),
    ([txt("a"), txt("b"), ("built", "match", 2), X, ("drop",)], None),
    ([txt("a"), txt("b"), ("built", "index", 2), X, ("drop",)], None),
    ([con(1), ("field",), X, ("drop",)], None),
    ([con(1), ("jump_if", True, 3), ("tick", 1), ("tick", 2)], [("jump", 1), ("tick", 2)]),
    ([con(0), ("jump_if", True, 3), ("tick", 1), ("tick", 2)], [("tick", 1), ("tick", 2)]),
    ([txt("0"), ("jump_if", False, 3), ("tick", 1), ("tick", 2)], [("tick", 1), ("tick", 2)]),
    ([("tick", 0), con(1), con(1), ("op", "-"), ("jump_if", False, 0)], [("tick", 0), ("jump", 0), ]),
    ([con(1), con(2), ("op", "+"), con(3), con(4), ("op", "*"), ("op", "-"), X, ("drop",)], [con(-9), X, ("drop",)]),
    # A row between is named, so nothing is straight.
    ([con(1), ("name", "x"), ("jump_if", True, 4), ("tick", 1), con(2), ("op", "+"), X, ("drop",)], None),
    ([("jump", 2), con(5), con(1), con(2), ("op", "+"), X, ("drop",)], [("jump", 1), con(3), X, ("drop",)]),
    ([con(1), con(2), ("name", "x"), ("jump_if", True, 5), ("tick", 1), ("op", "+"), X, ("drop",)], None),
]
TRIMS = [
    ([con(1), ("drop",), ("tick", 1)], [("tick", 1)]),
    ([("name", "x"), ("drop",), ("range", 0), ("drop",), ("tick", 1)], [("tick", 1)]),
    ([("name", "x"), ("copy",), ("drop",), X, ("drop",)], [("name", "x"), X, ("drop",)]),
    ([("size", ("global", "a")), ("drop",), ("tick", 1)], None),
    ([txt("k"), ("element", ("global", "a")), ("drop",), ("tick", 1)], None),
    ([("name", "x"), ("minus",), ("drop",)], None),
    ([("walk", ("global", "a")), ("drop",)], None),
    ([con(1), con(2), ("turn", 2), ("turn", 2), ("op", "-"), X, ("drop",)], [con(1), con(2), ("op", "-"), X,
            ("drop",)]),
    ([con(1), con(2), ("turn", 2), ("turn", 2), ("turn", 2), ("op", "-"), X, ("drop",)],
     [con(1), con(2), ("turn", 2), ("op", "-"), X, ("drop",)]),
    ([con(1), con(2), con(3), ("turn", 3), ("turn", 3), ("op", "-"), ("op", "-"), X, ("drop",)], None),
    ([("jump", 1), ("tick", 1)], [("tick", 1)]),
    ([("name", "x"), ("not",), ("jump_if", True, 4), ("tick", 1), ("tick", 2)],
     [("name", "x"), ("jump_if", False, 3), ("tick", 1), ("tick", 2)]),
    ([("name", "x"), ("not",), ("not",), ("jump_if", False, 5), ("tick", 1), ("tick", 2)],
     [("name", "x"), ("jump_if", False, 3), ("tick", 1), ("tick", 2)]),
    ([("name", "x"), ("jump_if", True, 3), ("jump", 4), ("jump", 5), ("tick", 1), ("tick", 2)],
     [("name", "x"), ("jump_if", True, 3), ("tick", 1), ("tick", 2)]),
    ([("tick", 0), ("record", 3), ("jump", 0), ("jump", 4), ("tick", 1)], [("tick", 0), ("record", 3), ("jump", 0),
            ("tick", 1)]),
    ([("tick", 0), con(1), ("next", 3), ("jump", 4), ("tick", 1)], [("tick", 0), con(1), ("next", 3), ("tick", 1)]),
    ([("walk", ("global", "a")), ("tick", 0), ("next_key", 5), ("drop",), ("jump", 1), ("jump", 6), ("tick", 1)],
     [("walk", ("global", "a")), ("tick", 0), ("next_key", 5), ("drop",), ("jump", 1), ("tick", 1)]),
    ([("jump", 2), ("tick", 1), ("jump", 4), ("tick", 2), ("tick", 3)], [("tick", 3)]),
    # A row between is named.
    ([con(1), ("name", "x"), ("jump_if", True, 3), ("drop",), ("tick", 1)], None),
    ([con(1), con(2), ("turn", 2), ("name", "x"), ("jump_if", True, 6), ("tick", 1), ("turn", 2), ("op", "-"), X,
            ("drop",)],
     None),
    ([("name", "x"), ("not",), ("name", "y"), ("jump_if", True, 4), ("jump_if", True, 6), ("tick", 1), ("tick", 2)],
            None),
    # What is named and left out hands its name on.
    ([("name", "y"), ("name", "x"), ("jump_if", True, 5), ("drop",), ("name", "x"), con(1), ("drop",), ("drop",),
            ("tick", 1)],
     [("name", "y"), ("name", "x"), ("jump_if", True, 5), ("drop",), ("name", "x"), ("drop",), ("tick", 1)]),
    ([("tick", 0), ("name", "x"), ("jump_if", True, 4), ("tick", 1), con(1), ("drop",), ("tick", 2)],
     [("tick", 0), ("name", "x"), ("jump_if", True, 4), ("tick", 1), ("tick", 2)]),
]


class TestPasses(Case):

    def check(self, action, rows, wanted, name):
        code = code_with(rows)
        self.assertIs(is_code(code), True, rows)
        made = action(code)
        self.assertEqual(made, code_with(rows if wanted is None else wanted), (name, rows))

    def test_folds(self):
        for rows, wanted in FOLDS:
            self.check(folded, rows, wanted, "folded")

    def test_trims(self):
        for rows, wanted in TRIMS:
            self.check(trimmed, rows, wanted, "trimmed")

    def test_locals(self):
        code = code_with([("tick", 0)], [("local", 0), ("drop",), ("jump", 3), ("local", 0), ("return",), ("tick", 4)])
        self.assertEqual(trimmed(code), code_with([("tick", 0)], [("local", 0), ("return",)]))
        code = code_with([("tick", 0)], [con(1), ("jump_if", True, 3), ("tick", 1), con(2), con(3), ("op", "+"),
                ("return",)])
        self.assertEqual(folded(code), code_with([("tick", 0)], [("jump", 1), con(5), ("return",)]))
        self.assertEqual(trimmed(folded(code)), code_with([("tick", 0)], [con(5), ("return",)]))

    def test_entries(self):
        """The row of the end phase is an entry; rows around it are not straight with it."""
        code = (SCALARS, ARRAYS, 0, (("", (), (con(1), ("drop",), END, con(2), ("drop",), ("halt",))),))
        self.assertEqual(trimmed(code)[3][0][2], (END, ("halt",)))
        code = (SCALARS, ARRAYS, 0, (("", (), (("halt",), ("tick", 1), END, ("jump", 4), ("halt",))),))
        for action, rows in [(swept, (("halt",), END, ("jump", 3), ("halt",))), (folded, (("halt",), END, ("jump", 3),
                ("halt",))),
                (trimmed, (("halt",), END, ("halt",)))]:
            self.assertEqual(action(code)[3][0][2], rows)

    def test_sweeps(self):
        for rows, wanted in [([("jump", 2), ("drop",), ("tick", 1)], [("jump", 1), ("tick", 1)]),
                ([con(1), con(2), ("op", "+"), ("drop",)], None), ([con(1), ("jump_if", True, 3), ("jump", 3), ("tick",
                1)], None),
                ([("tick", 0), ("jump", 0), ("tick", 2), ("jump", 2)], [("tick", 0), ("jump", 0)])]:
            self.check(swept, rows, wanted, "swept")

    def check_pass(self, action, code, world):
        made = action(code)
        self.assertIs(is_code(made), True)
        soundness.shapes(made)
        self.assertEqual(made[:3], code[:3])
        self.assertEqual([body[:2] for body in made[3]], [body[:2] for body in code[3]])
        self.assertEqual(slowpasses.left_to_do(made, action.__name__), [], (action, code))
        self.assertEqual(action(made), made)
        if action is swept:
            self.assertEqual(made, slowpasses.swept(code))
        for count in range(9):
            self.assertEqual(outcome(made, world, count), outcome(code, world, count), (action, code, world))
        self.assertEqual(outcome(made, world, 60), outcome(code, world, 60), (action, code, world))

    def test_random_codes(self):
        random = random_of("passes")
        maker = Codes(random)
        for _ in range(100 * MANY):
            code, world = maker.code(random.choice([10, 20, 40, 70])), maker.world()
            for action in [folded, trimmed, swept]:
                self.check_pass(action, code, world)

    def test_programs(self):
        random = random_of("passes of programs")
        maker = Runs(random)
        for _ in range(60 * MANY):
            code, world = code_of(maker.program(random.choice([3, 4, 5]))), maker.world()
            for action in [folded, trimmed, swept]:
                self.check_pass(action, code, world)

    def test_by_turns(self):
        """Each pass of what another one made."""
        source = "BEGIN { if (!(1 < 2) || x) y = 1 + 2 * 3; else { 1; y } while (1) { if (y) break; x = !x } "
        code = code_of(program_of(source + "exit -(1) }"))
        for first in [folded, trimmed, swept]:
            for second in [folded, trimmed, swept]:
                self.check_pass(second, first(code), ((), ()))

    def test_errors(self):
        bad = code_with([("drop",)])
        for action in [folded, trimmed, swept]:
            self.raises(UnsoundCode, action, bad)
            for value in VALUES:
                self.raises(InvalidCode, action, value)


if __name__ == "__main__":
    unittest.main()
