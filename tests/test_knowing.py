"""[61], [62]: spots, kinds, reasons and sharpened codes."""

import unittest

import soundness
from makingcodes import ARRAYS, END, SCALARS, Codes
from makingruns import Runs
from patterndeeds.codes import code_of, is_code
from patterndeeds.errors import InvalidCode, InvalidKind, InvalidSpot, UnsoundCode
from patterndeeds.folding import folded, trimmed
from patterndeeds.knowing import is_kind_reason, kind_reason, sharpened, spot_kinds, spots
from patterndeeds.likeness import least_code
from patterndeeds.machine import outcome
from patterndeeds.parser import program_of
from patterndeeds.shortening import shortened
from slowknowing import Flow
from helper import MANY, VALUES, Case, Number, Row, Rows, Text, random_of
from test_fits import states_of

A, B, L = ("global", "a"), ("global", "b"), ("local", 1)
UNSET = ("constant", ("unset",))
TAIL = (END, ("halt",))
F = ("f", ("value", "array"), (("tick", 5), ("local", 0), ("return",)))


def num(top, bottom=1):
    return ("constant", ("number", top, bottom))


def txt(one):
    return ("constant", ("text", one))


def code_with(rows, *functions):
    return (SCALARS, ARRAYS, 1, (("", (), tuple(rows) + TAIL),) + (functions or (F,)))


def top(rows):
    """The spot of the last thing that rows leave on the stack, of which each gives or takes it."""
    code = code_with(list(rows) + [("exit", False)])
    return code, ("entry", 0, len(rows), len(soundness.shapes(code)[0][len(rows)]) - 1)


class TestKinds(Case):

    def test_what_instructions_give(self):
        """The kinds of what each instruction gives last."""
        for rows, kinds in [
                ([num(1)], ["number"]), ([txt("a")], ["text"]), ([UNSET], ["unset"]), ([("name", "x")], ["unset"]),
                ([("name", "NF")], ["number"]), ([("name", "FILENAME")], ["text"]), ([("range", 0)], ["number"]),
                ([num(1), ("field",)], ["seen", "unset"]), ([num(1), ("element", A)], ["unset"]),
                ([num(1), ("is_in", A)], ["number"]), ([txt("a"), ("minus",)], ["number"]), ([txt("a"), ("plus",)],
                ["number"]),
                ([txt("a"), ("not",)], ["number"]), ([txt("a"), ("close",)], ["number"]), ([num(1), ("key", 1)],
                ["text"]),
                ([num(1), num(1), ("key", 2)], ["text"]), ([("size", A)], ["number"]), ([txt("a"), ("set_name", "x")],
                ["text"]),
                ([txt("a"), ("set_name", "NF")], ["text"]), ([txt("a"), num(1), ("set_field",)], ["text"]),
                ([txt("a"), num(1), ("set_element", A)], ["text"]), ([txt("a"), num(1), ("drop",)], ["text"]),
                ([txt("a"), ("copy",)], ["text"]), ([txt("a"), num(1), ("turn", 2)], ["text"]),
                ([txt("a"), num(1), UNSET, ("turn", 3)], ["text"]), ([num(1), num(1), ("op", "+")], ["number"]),
                ([num(1), num(1), ("compare", "<")], ["number"]), ([num(1), num(1), ("compare_as", "text", "<")],
                ["number"]),
                ([num(1), num(1), ("join",)], ["text"]), ([txt("a"), txt("a"), ("match",)], ["number"]),
                ([txt("a"), ("built", "length", 1)], ["number"]), ([txt("a"), txt("a"), ("built", "index", 2)],
                ["number"]),
                ([txt("a"), num(1), ("built", "substr", 2)], ["text"]), ([txt("a"), ("built", "tolower", 1)], ["text"]),
                ([txt("a"), ("built", "toupper", 1)], ["text"]), ([txt("a"), ("built", "int", 1)], ["number"]),
                ([txt("a"), ("built", "sprintf", 1)], ["text"]), ([txt("a"), txt("a"), ("built", "match", 2)],
                ["number"]),
                ([txt("a"), ("split", A, 1)], ["number"]), ([txt("a"), txt("a"), txt("a"), ("substitute", True)],
                ["number"]),
                ([txt("a"), txt("a"), txt("a"), ("substitute", True), ("drop",)], ["text"]),
                ([("read", "main", "record")], ["number"]), ([("read", "main", "value")], ["number"]),
                ([("read", "main", "value"), ("drop",)], ["seen", "unset"]),
                ([txt("f"), ("read", "<", "value"), ("drop",)], ["seen", "unset"]), ([txt("f"), ("read", "|",
                "record")], ["number"]),
                ([("walk", A), ("tick", 0), ("next_key", 4), ("exit", False), num(7)], ["number"]),
                ([UNSET, ("array", A), ("call", "f", 2)], ["unset"]), ([txt("a"), ("call", "f", 1)], ["text"]),
                ([("call", "f", 0)], ["unset"])]:
            code, spot = top(rows)
            self.assertEqual(spot_kinds(code, spot), kinds, rows)
            for kind in ["number", "seen", "text", "unset"]:
                reason = kind_reason(code, spot, kind)
                self.assertEqual(reason is not None, kind in kinds)
                if reason is not None:
                    self.assertIs(is_kind_reason(code, spot, kind, reason), True)
        code, spot = top([("walk", A), ("tick", 0), ("next_key", 5)])
        self.assertEqual(spot_kinds(code, ("entry", 0, 3, 1)), ["text"])

    def test_where_they_come_to(self):
        function = ("f", ("value", "array", "value"), (("local", 2), ("jump_if", True, 7), txt("v"), num(1),
                ("set_element", L),
                ("set_local", 2), ("drop",), ("local", 0), ("return",)))
        code = code_with([num(1), ("array", A), ("call", "f", 2), ("set_name", "x"), ("drop",), UNSET, ("array", B),
                ("call", "f", 2), ("drop",), txt("s"), ("split", B, 1), ("set_name", "NF"), ("drop",)], function)
        for spot, kinds in [(("scalar", "x"), ["number", "unset"]), (("scalar", "y"), ["unset"]), (("scalar", "NF"),
                ["number"]),
                (("array", "a"), ["seen", "text"]), (("array", "b"), ["seen", "text"]), (("local", 1, 0), ["number",
                "unset"]),
                (("local", 1, 1), ["seen", "text"]), (("local", 1, 2), ["text", "unset"]), (("result", 1), ["number",
                "unset"]),
                (("record",), []), (("scalar", "ORS"), ["text"]), (("scalar", "RLENGTH"), ["number"])]:
            self.assertEqual(spot_kinds(code, spot), kinds, spot)
        self.assertEqual(kind_reason(code, ("array", "a"), "seen"), [("array", "b"), ("local", 1, 1), ("array", "a")])
        self.assertEqual(kind_reason(code, ("scalar", "x"), "number"), [("entry", 0, 1, 0), ("entry", 0, 2, 0),
                ("local", 1, 0),
                ("entry", 1, 8, 0), ("result", 1), ("entry", 0, 3, 0), ("scalar", "x")])
        self.assertIsNone(kind_reason(code, ("record",), "text"))

    def test_arrays_that_meet(self):
        """An array on the stack that may be one of two is handed over for both; one that is dropped for none."""
        rows = [num(1), ("name", "x"), ("jump_if", True, 5), ("array", A), ("jump", 6), ("array", B), ("call", "f", 2),
                ("drop",),
                txt("t"), num(1), ("set_element", A), ("drop",)]
        code = code_with(rows)
        self.assertEqual(spot_kinds(code, ("array", "b")), ["text"])
        self.assertEqual(kind_reason(code, ("array", "b"), "text")[-3:], [("array", "a"), ("local", 1, 1), ("array",
                "b")])
        rows[6:8] = [("exit", False), ("tick", 0)]
        code = code_with(rows[:7])
        self.assertEqual(spot_kinds(code, ("array", "b")), [])

    def test_spots(self):
        code = code_with([num(1), ("walk", A), ("array", B), ("jump", 5), ("drop",), ("exit", False)],
                F, ("g", ("array",), (("call", "f", 0), ("return",))))
        scalars = [("scalar", name) for name in SCALARS]
        self.assertEqual(spots(code), [("array", "a"), ("array", "b"), ("entry", 0, 1, 0), ("entry", 0, 2, 0),
                ("entry", 0, 3, 0),
                ("entry", 0, 5, 0), ("record",)] + scalars)
        code = code_with([("call", "g", 0)] + [("drop",)], F, ("g", ("array",), (("call", "f", 0), ("return",))))
        self.assertEqual(spots(code), [("array", "a"), ("array", "b"), ("entry", 0, 1, 0), ("entry", 1, 2, 0),
                ("entry", 2, 1, 0),
                ("local", 1, 0), ("local", 1, 1), ("local", 2, 0), ("record",), ("result", 1), ("result", 2)] + scalars)

    def test_no_spots(self):
        code = code_with([num(1), ("jump", 3), ("tick", 1), ("walk", A), ("exit", False)], F, ("g", ("array",),
                (UNSET, ("return",))))
        good = [("entry", 0, 1, 0), ("scalar", "x"), ("array", "a"), ("record",), ("entry", 0, 4, 0)]
        bad = [("entry", 0, 2, 0), ("entry", 0, 0, 0), ("entry", 0, 4, 1), ("entry", 0, 1, 1), ("entry", 0, 1, -1),
               ("entry", 1, 2, 0), ("local", 1, 0), ("local", 2, 0), ("result", 1), ("result", 0), ("local", 0, 0),
               ("scalar", "a"), ("array", "x"), ("scalar", "z"), ("record", 0), ("Record",), ("entry", 0, True, 0),
               ("entry", False, 1, 0), ("entry", 0, 1, Number(0)), ("entry", 0, 1), ("entry", 0, 1, 0, 0),
               Row(("record",)),
               ["record"], ("scalar", Text("x")), ("scalar", ["x"]), (("record",),), ("entry", 0, 1, None), "record",
               ("entry", "0", 1, 0)] + VALUES
        for spot in good:
            spot_kinds(code, spot)
        for spot in bad:
            self.raises(InvalidSpot, spot_kinds, code, spot)
            self.raises(InvalidSpot, kind_reason, code, spot, None)
            self.raises(InvalidSpot, is_kind_reason, code, spot, None, None)
        for kind in ["Number", "", "array", "walk", Text("text"),
                ("text",)] + [value for value in VALUES if value != "text"]:
            self.raises(InvalidKind, kind_reason, code, ("record",), kind)
            self.raises(InvalidKind, is_kind_reason, code, ("record",), kind, None)

    def test_reasons(self):
        code, spot = top([txt("a"), ("set_name", "x"), ("drop",), ("name", "x"), ("copy",)])
        reason = [("entry", 0, 1, 0), ("scalar", "x"), ("entry", 0, 4, 0), ("entry", 0, 5, 1)]
        self.assertEqual(kind_reason(code, spot, "text"), reason)
        other = [("scalar", "x"), ("entry", 0, 4, 0), ("entry", 0, 5, 1)]
        for value, kind, wanted in [(reason, "text", True), (reason, "unset", False), (other, "unset", True), (other,
                "text", False),
                (reason[:-1], "text", False), (reason[1:], "text", False), (reason[::-1], "text", False),
                (reason + [spot], "text", False), (tuple(reason), "text", False), ([], "text", False), (Rows(reason),
                "text", False),
                (reason[:1] + reason, "text", False), ([list(one) for one in reason], "text", False),
                (reason[:2] + [("entry", 0, 5, 0)], "text", False), (reason[:-1] + [("entry", False, 5, 1)], "text",
                False),
                (reason[:1] + [("entry", 0, 2, 0)] + reason[1:], "text", False),
                (reason[:1] + [("scalar", "y")] + reason[2:], "text", False), ([None], "text", False), ([spot], "text",
                False)]:
            self.assertIs(is_kind_reason(code, spot, kind, value), wanted, value)
        for value in VALUES:
            self.assertIs(is_kind_reason(code, spot, "text", value), False)
        # A way round is a reason, too.
        code, spot = top([("name", "x"), ("set_name", "x")])
        around = [("scalar", "x"), ("entry", 0, 1, 0)]
        self.assertIs(is_kind_reason(code, spot, "unset", around * 3 + [("scalar", "x"), ("entry", 0, 1, 0), spot]),
                True)

    def codes(self, many, seed):
        random = random_of(seed)
        maker, codes = Runs(random), Codes(random)
        for at in range(many):
            code = codes.code(random.choice([10, 20, 40])) if at % 2 else code_of(maker.program(random.choice([2, 3,
                    4])))
            yield code, maker.world(), random

    def test_against_slow_ones(self):
        """[K2]: what comes from first kinds by copies, and nothing else."""
        for code, _, random in self.codes(60 * MANY, "kinds"):
            flow = Flow(code)
            self.assertEqual(spots(code), sorted(flow.spots))
            table = flow.kinds()
            for spot in random.sample(sorted(table), min(25, len(table))):
                self.assertEqual(spot_kinds(code, spot), table[spot], (code, spot))
                for kind in ["number", "seen", "text", "unset"]:
                    reason = kind_reason(code, spot, kind)
                    self.assertEqual(reason is not None, kind in table[spot])
                    if reason is not None:
                        self.assertIn((reason[0], kind), flow.firsts)
                        self.assertTrue(all(pair in flow.copies for pair in zip(reason, reason[1:])))
                        self.assertEqual(reason[-1], spot)
                        self.assertIs(is_kind_reason(code, spot, kind, reason), True)

    def test_in_runs(self):
        """[K1], [K3]: what a spot holds in a run has a kind of the spot."""
        for code, world, random in self.codes(60 * MANY, "held kinds"):
            made = random.choice([code, folded(code), trimmed(code), least_code(code), shortened(code),
                    sharpened(code)])
            table, shapes = Flow(made).kinds(), soundness.shapes(made)
            numbers = {body[0]: at for at, body in enumerate(made[3])}
            for held in states_of(made, world, 60):
                for spot, one in held_spots(held, shapes, numbers):
                    self.assertIn(one[0], table[spot], (made, spot))


def held_spots(held, shapes, numbers):
    """The tuples (spot, value) of what a held state holds."""
    calls, room = held[4], held[5]
    found = [(("scalar", name), one) for name, one in room[2]]
    found += [(("array", name), one) for name, table in room[3] for _, one in table]
    for name, cells, _, _ in calls:
        for at, cell in enumerate(cells):
            spot = ("local", numbers[name], at)
            if cell[0] == "table":
                found += [(spot, one) for _, one in cell[1]]
            elif cell[0] not in ("global", "own"):
                found.append((spot, cell))
    if held[0] is None or held[0][0] != "over":
        body, at = held[2]
        base = calls[-1][2] if calls else 0
        for height, word in enumerate(shapes[body][at]):
            if word == "value":
                found.append((("entry", body, at, height), held[3][base + height]))
    return found


class TestSharpened(Case):

    def test_by_hand(self):
        end = [("drop",)]
        for rows, wanted in [
                ([num(1), num(2), ("compare", "<")] + end, [num(1), num(2), ("compare_as", "number", "<")] + end),
                ([("name", "x"), num(2), ("compare", ">=")] + end, [("name", "x"), num(2), ("compare_as", "number",
                ">=")] + end),
                ([("name", "x"), UNSET, ("compare", "==")] + end, [("name", "x"), UNSET, ("compare_as", "number",
                "==")] + end),
                ([txt("a"), num(2), ("compare", "<")] + end, [txt("a"), num(2), ("compare_as", "text", "<")] + end),
                ([num(1), ("field",), txt("a"), ("compare", "!=")] + end,
                 [num(1), ("field",), txt("a"), ("compare_as", "text", "!=")] + end),
                ([num(1), ("field",), num(2), ("compare", "<")] + end, None),
                ([num(1), ("field",), ("copy",), ("compare", "<")] + end, None),
                ([num(1), ("plus",), ("set_name", "y")] + end, [num(1), ("set_name", "y")] + end),
                ([("name", "x"), ("plus",)] + end, None),
                ([("name", "NF"), ("plus",), ("minus",)] + end, [("name", "NF"), ("minus",)] + end),
                ([txt("k"), ("key", 1), ("key", 1), ("element", A)] + end, [txt("k"), ("element", A)] + end),
                ([num(1), ("key", 1), ("key", 1), ("element", A)] + end, [num(1), ("key", 1), ("element", A)] + end),
                ([txt("k"), txt("l"), ("key", 2), ("element", A)] + end, None),
                ([num(1), num(2), ("compare_as", "text", "<")] + end, None),
                ([("jump", 2), ("tick", 3), num(1), ("plus",), ("jump_if", True, 6), ("tick", 2), ("tick", 4)],
                 [("jump", 1), num(1), ("jump_if", True, 4), ("tick", 2), ("tick", 4)])]:
            self.assertEqual(sharpened(code_with(rows)), code_with(rows if wanted is None else wanted), rows)

    def test_entries_without_kinds(self):
        """What calls give if no call returns has no kinds; it is left as it is, but for comparisons."""
        never = ("f", ("value", "array"), (("tick", 1), ("jump", 0)))
        rows = [("call", "f", 0), ("plus",), ("call", "f", 0), ("key", 1), ("call", "f", 0), ("compare", "<"),
                ("drop",)]
        code = code_with(rows + [("drop",)], never)
        self.assertEqual(spot_kinds(code, ("entry", 0, 1, 0)), [])
        wanted = rows[:5] + [("compare_as", "text", "<"), ("drop",), ("drop",)]
        self.assertEqual(sharpened(code), code_with(wanted, never))
        rows = [("call", "f", 0), ("copy",), ("compare", "<"), ("drop",)]
        self.assertEqual(sharpened(code_with(rows, never))[3][0][2][2], ("compare_as", "number", "<"))

    def test_bodies_that_are_not_live(self):
        code = code_with([("tick", 0)], ("f", ("value", "array"), (num(1), ("jump", 3), ("drop",), num(2), ("compare",
                "<"),
                ("return",))))
        self.assertEqual(sharpened(code)[3][1][2], (num(1), ("jump", 2), num(2), ("compare", "<"), ("return",)))

    def test_outcomes(self):
        random = random_of("sharpened")
        maker, codes = Runs(random), Codes(random)
        changed = 0
        for at in range(100 * MANY):
            code, world = codes.code(30) if at % 2 else code_of(maker.program(4)), maker.world()
            made = sharpened(code)
            self.assertIs(is_code(made), True)
            soundness.shapes(made)
            changed += any(row[0] == "compare_as" for row in made[3][0][2])
            self.assertEqual([len(known) for known in soundness.shapes(made)], [len(body[2]) for body in made[3]])
            for count in [0, 1, 2, 3, 5, 8, 13, 40]:
                self.assertEqual(outcome(made, world, count), outcome(code, world, count), (code, world))
        self.assertGreater(changed, 20)

    def test_errors(self):
        bad = code_with([("drop",)])
        for action, more in [(spots, ()), (spot_kinds, (None,)), (kind_reason, (None, None)), (sharpened, ()),
                (is_kind_reason, (None, None, None))]:
            self.raises(UnsoundCode, action, bad, *more)
            for value in VALUES[:20]:
                self.raises(InvalidCode, action, value, *more)
        self.assertEqual(spots(code_of(program_of("")))[0], ("record",))


if __name__ == "__main__":
    unittest.main()
