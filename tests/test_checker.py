"""[49] to [51]: followers, ways, code faults, shapes and the step bound."""

import unittest

import slowfaults
import soundness
from makingcodes import ARRAYS, END, SCALARS, Codes
from makingruns import Runs
from patterndeeds.checker import code_fault, is_code_fault, shapes, step_bound
from patterndeeds.codes import code_of, is_code
from patterndeeds.errors import InvalidCode, UnsoundCode
from patterndeeds.parser import program_of
from helper import MANY, VALUES, Case, Number, Row, Rows, exchanged, leaf_paths, random_of

ONE, UNSET = ("constant", ("number", 1, 1)), ("constant", ("unset",))
TAIL = (END, ("halt",))
F, G = ("f", ("value", "array"), (UNSET, ("return",))), ("g", (), (UNSET, ("return",)))


def main_code(*rows, more=(F, G)):
    """A code with these rows as its main."""
    return (SCALARS, ARRAYS, 1, (("", (), rows),) + tuple(more))


def function_code(*rows):
    """A code with these rows as its function f(value, array)."""
    return main_code(*TAIL, more=(F[:2] + (rows,),))


# Codes with a fault, each with its kind, its body and the ways that show it, if there are no others.
FAULTY = [
    (main_code(("drop",), *TAIL), "lacks", 0, [[0]]),
    (main_code(ONE, ("op", "+"), ("halt",), *TAIL), "lacks", 0, [[0, 1]]),
    (main_code(("array", ("global", "a")), ("drop",), *TAIL), "lacks", 0, [[0, 1]]),
    (main_code(("walk", ("global", "a")), ("not",), *TAIL), "lacks", 0, [[0, 1]]),
    (main_code(ONE, ("next_key", 0), *TAIL), "lacks", 0, [[0, 1]]),
    (main_code(("walk", ("global", "a")), ONE, ("next_key", 0), *TAIL), "lacks", 0, [[0, 1, 2]]),
    (main_code(ONE, ONE, ("call", "f", 2), *TAIL), "lacks", 0, [[0, 1, 2]]),
    (main_code(("array", ("global", "a")), ("call", "f", 1), *TAIL), "lacks", 0, [[0, 1]]),
    (main_code(ONE, ("key", 10 ** 80), *TAIL), "lacks", 0, [[0, 1]]),
    (main_code(ONE, ("print", 1, ">"), *TAIL), "lacks", 0, [[0, 1]]),
    (main_code(ONE, ("turn", 2), *TAIL), "lacks", 0, [[0, 1]]),
    (main_code(("read", "<", "value"), *TAIL), "lacks", 0, [[0]]),
    (main_code(("exit", True), *TAIL), "lacks", 0, [[0]]),
    (main_code(*TAIL, more=(("f", (), (("return",),)),)), "lacks", 1, [[0]]),
    (function_code(("array", ("local", 1)), ("return",)), "lacks", 1, [[0, 1]]),
    (main_code(ONE, END, ("halt",)), "unlike", 0, [[1], [0, 1]]),
    (main_code(("tick", 0), ONE, ("jump", 0), *TAIL), "unlike", 0, [[0], [0, 1, 2, 0]]),
    (main_code(ONE, ("jump_if", True, 3), ONE, ("halt",), *TAIL), "unlike", 0, [[0, 1, 3], [0, 1, 2, 3]]),
    (main_code(("walk", ("global", "a")), ("next_key", 3), ("drop",), ("halt",), *TAIL), "unlike", 0,
     [[0, 1, 3], [0, 1, 2, 3]]),
    (main_code(("walk", ("global", "a")), ("next_key", 4), ("drop",), ("drop",), ("halt",), *TAIL), None, None, None),
    (main_code(ONE, ("next", 3), ("halt",), ("drop",), *TAIL), "lacks", 0, [[0, 1, 3]]),
    (main_code(END, ("tick", 1)), "falls", 0, [[0, 1, 2]]),
    (main_code(ONE, ("jump_if", True, 2), END, ONE, ("jump_if", False, 2)), "falls", 0, None),
    (function_code(("tick", 0)), "falls", 1, [[0, 1]]),
    (function_code(UNSET, ("return",), ("jump", 2)), None, None, None),
    (main_code(("jump", 0), *TAIL), "tickless", 0, [[0, 0]]),
    (main_code(("tick", 0), ("jump", 2), ONE, ("jump_if", True, 1), ("halt",), *TAIL), "tickless", 0, None),
    (main_code(END, ("record", 0), ("halt",)), "tickless", 0, [[0, 1, 0]]),
    (main_code(("next", 0), *TAIL), "tickless", 0, [[0, 0]]),
    (function_code(("jump", 1), ("jump", 0)), "tickless", 1, None),
    (main_code(("tick", 0), ("jump", 0), *TAIL), None, None, None),
    (main_code(("walk", ("global", "a")), ("tick", 1), ("next_key", 5), ("drop",), ("jump", 1), *TAIL), None, None,
     None),
    (main_code(("halt",), ("drop",), ("jump", 2), *TAIL), None, None, None),
    (main_code(ONE, ("jump_if", True, 2), *TAIL), None, None, None),
    (main_code(("record", 1), *TAIL), None, None, None),
    (main_code(ONE, ONE, ("exit", True), *TAIL), None, None, None),
    (main_code(ONE, ("walk", ("global", "b")), ("next", 3), END, ("halt",)), None, None, None),
    (main_code(ONE, ("array", ("global", "a")), ("call", "f", 2), ("call", "f", 0), ("call", "g", 0), ("halt",), *TAIL),
     None, None, None),
]


class TestFaults(Case):

    def test_each_kind(self):
        for code, kind, number, ways in FAULTY:
            self.assertIs(is_code(code), True, code)
            found = code_fault(code)
            if kind is None:
                self.assertIsNone(found, code)
                self.assertTrue(slowfaults.is_sound(code))
                continue
            self.assertEqual(found[:2], (kind, number), code)
            self.assertIs(is_code_fault(code, found), True)
            self.assertTrue(slowfaults.is_fault(code, *found))
            if ways is not None:
                self.assertIs(is_code_fault(code, (kind, number, ways)), True, code)
            for action in [shapes, step_bound]:
                self.raises(UnsoundCode, action, code)

    def test_against_slow_ones(self):
        """A code has a fault, or its shapes are those of following all ways [C1]."""
        random = random_of("checker")
        maker = Codes(random)
        kinds = set()
        for _ in range(300 * MANY):
            code = maker.code(random.choice([8, 20, 40]))
            self.assertIs(is_code(code), True)
            for _ in range(3):
                fault = code_fault(code)
                self.assertEqual(fault is None, slowfaults.is_sound(code), code)
                if fault is None:
                    found = soundness.shapes(code)
                    self.assertEqual(shapes(code), [[known.get(at) for at in range(len(body[2]))]
                                                    for known, body in zip(found, code[3])])
                    self.assertEqual(step_bound(code), slow_bound(code, found))
                else:
                    kinds.add(fault[0])
                    self.assertTrue(slowfaults.is_fault(code, *fault), (code, fault))
                    self.assertIs(is_code_fault(code, fault), True)
                    self.raises(UnsoundCode, shapes, code)
                changed = maker.changed(code)
                code = changed if is_code(changed) else code
        self.assertEqual(kinds, {"lacks", "unlike", "falls", "tickless"})

    def test_rows_in_any_sequence(self):
        """Jumps may lead back to rows that nothing else leads to, and round."""
        random = random_of("any sequence")
        maker = Codes(random)
        found = set()
        for _ in range(60 * MANY):
            code = maker.shuffled(maker.code(random.choice([8, 20])))
            for _ in range(4):
                self.assertIs(is_code(code), True)
                sound = slowfaults.is_sound(code)
                found.add(sound)
                fault = code_fault(code)
                self.assertEqual(fault is None, sound, code)
                if sound:
                    known = soundness.shapes(code)
                    self.assertEqual(shapes(code), [[one.get(at) for at in range(len(body[2]))]
                                                    for one, body in zip(known, code[3])])
                    self.assertEqual(step_bound(code), slow_bound(code, known))
                else:
                    self.assertTrue(slowfaults.is_fault(code, *fault), (code, fault))
                    self.raises(UnsoundCode, shapes, code)
                    self.raises(UnsoundCode, step_bound, code)
                changed = maker.changed(code)
                code = changed if is_code(changed) else code
        self.assertEqual(found, {True, False})

    def test_rows_met_from_behind(self):
        """What is met at last, by jumps back alone, has its shape and its faults, too."""
        back = (("jump", 5), ("drop",), ("halt",), ONE, ("jump", 1), ("jump", 3)) + TAIL
        code = main_code(*back)
        self.assertEqual(shapes(code)[0], [(), ("value",), (), (), ("value",), (), (), ()])
        self.assertIsNone(code_fault(code))
        for at, row, kind in [(3, ("tick", 1), "lacks"), (2, ("jump", 3), "tickless"), (2, ("jump", 1), "unlike"),
                              (4, ("jump_if", True, 3), "tickless"), (7, ("tick", 1), "falls"),
                              (3, ("array", ("global", "a")), "lacks"), (0, ("jump", 1), "lacks")]:
            bad = main_code(*(back[:at] + (row,) + back[at + 1:]))
            self.assertEqual((code_fault(bad)[0], slowfaults.is_sound(bad)), (kind, False), row)
            self.assertIs(is_code_fault(bad, code_fault(bad)), True)
            self.raises(UnsoundCode, shapes, bad)
            self.raises(UnsoundCode, step_bound, bad)

    def test_codes_of_programs_are_sound(self):
        random = random_of("sound")
        maker = Runs(random)
        for _ in range(100 * MANY):
            code = code_of(maker.program(random.choice([3, 4, 5])))
            self.assertIsNone(code_fault(code))
            self.assertEqual(step_bound(code), slow_bound(code, soundness.shapes(code)))


def slow_bound(code, found):
    """The step bound, by going on as long as it grows."""
    best = 0
    for known, (_, _, rows) in zip(found, code[3]):
        longest = dict.fromkeys(known, 1)
        grows = True
        while grows:
            grows = False
            for at in known:
                ahead = [longest[one] + 1 for one in soundness.followers(rows, at) if rows[one][0] != "tick"]
                if max(ahead, default=0) > longest[at]:
                    longest[at] = max(ahead)
                    grows = True
        best = max([best] + list(longest.values()))
    return best


class TestIsCodeFault(Case):

    def test_all_short_ways(self):
        """All ways of small codes, alone and in pairs, and such that do not follow."""
        random = random_of("short ways")
        for code, _, number, _ in FAULTY:
            for body in range(len(code[3])):
                ways = slowfaults.ways_of(code, body, 5)[:60]
                ways += [way[:-1] + [random.randrange(len(code[3][body][2]) + 1)] for way in ways] + [[]]
                for kind in ["lacks", "falls", "tickless"]:
                    for way in ways:
                        self.assertIs(is_code_fault(code, (kind, body, [way])),
                                      bool(slowfaults.is_fault(code, kind, body, [way])), (code, kind, way))
                for _ in range(150):
                    pair = [random.choice(ways), random.choice(ways)]
                    self.assertIs(is_code_fault(code, ("unlike", body, pair)),
                                  slowfaults.is_fault(code, "unlike", body, pair), (code, pair))

    def test_any_value(self):
        for code, kind, number, _ in FAULTY:
            if kind is None:
                continue
            right = code_fault(code)
            ways = right[2]
            self.assertIs(is_code_fault(code, right), True)
            wrong = VALUES + [right[:2], right + (0,), list(right), Row(right), (kind, str(number), ways),
                    (kind, True, ways), (kind, -1, ways), (kind, len(code[3]), ways), (kind, 10 ** 80, ways),
                    (kind, None, ways), (kind, Number(number), ways), (None, number, ways), ([kind], number, ways),
                    (kind.upper(), number, ways), (kind, number, tuple(ways)), (kind, number, Rows(ways)),
                    (kind, number, [tuple(way) for way in ways]), (kind, number, ways + [ways[0]]),
                    (kind, number, []), (kind, number, ways[0]), (kind, number, [Rows(way) for way in ways]),
                    (kind, number, [ways[0] + [True]] + ways[1:]), (kind, number, [ways[0] + [None]] + ways[1:]),
                    (kind, number, [ways[0][:-1] + [float(ways[0][-1])]] + ways[1:]), (kind, number,
                    [None] * len(ways)),
                    (kind, number, [[]] * len(ways)), (kind, number, [["0"]] * len(ways)),
                    (kind, number, [ways[0][:-1] + [-1]] + ways[1:]), (kind, number,
                    [ways[0][:-1] + [10 ** 80]] + ways[1:])]
            if kind == "unlike":
                wrong += [(kind, number, ways[:1]), (kind, number, [ways[0], ways[0]])]
                self.assertIs(is_code_fault(code, (kind, number, ways[::-1])), True)
            if 0 in ways[0]:
                wrong.append((kind, number, [[False if at == 0 else at for at in ways[0]]] + ways[1:]))
            for value in wrong:
                self.assertIs(is_code_fault(code, value), False, (code, value))

    def test_rows_behind_a_lack(self):
        """No row of a way but the last lacks anything."""
        code = main_code(("drop",), ("drop",), ("jump", 0), *TAIL)
        for kind, ways, wanted in [("lacks", [[0]], True), ("lacks", [[0, 1]], False), ("tickless", [[0, 1, 2, 0]],
                False),
                ("lacks", [[0, 0]], False), ("lacks", [[1]], False)]:
            self.assertIs(is_code_fault(code, (kind, 0, ways)), wanted, ways)
        code = main_code(ONE, ("jump_if", True, 3), ONE, ("op", "+"), ("halt",), *TAIL)
        self.assertIs(is_code_fault(code, ("unlike", 0, [[0, 1, 2, 3], [0, 1, 3]])), True)
        self.assertIs(is_code_fault(code, ("lacks", 0, [[0, 1, 2, 3]])), True)

    def test_more_than_one_round(self):
        code = main_code(("tick", 0), ONE, ("jump_if", True, 1), ("jump_if", True, 0), *TAIL)
        for way, wanted in [([0, 1, 2, 1], True), ([0, 1, 2, 1, 2], True), ([0, 1, 2, 1, 2, 1], True), ([0, 1, 2],
                False),
                ([0, 1, 2, 1, 2, 3, 4], False), ([1, 2, 1], False)]:
            self.assertIs(is_code_fault(code, ("tickless", 0, [way])), wanted, way)
        code = main_code(("tick", 0), ("jump", 0), *TAIL)
        self.assertIs(is_code_fault(code, ("tickless", 0, [[0, 1, 0]])), False)

    def test_errors(self):
        code = FAULTY[0][0]
        for path in leaf_paths(code)[1:40]:
            value = exchanged(code, path, None)
            for action in [code_fault, shapes, step_bound]:
                self.raises(InvalidCode, action, value)
            self.raises(InvalidCode, is_code_fault, value, None)
        for value in VALUES:
            for action in [code_fault, shapes, step_bound]:
                self.raises(InvalidCode, action, value)


class TestShapes(Case):

    def test_rows_that_are_not_reached(self):
        code = main_code(ONE, ("jump", 3), ("drop",), ("walk", ("global", "a")), ("array", ("global", "b")), ("halt",),
                         ("tick", 1), END, ("halt",), ("next", 0))
        self.assertEqual(shapes(code)[0], [(), ("value",), None, ("value",), ("value", "walk"),
                                           ("value", "walk", "array"), None, (), (), None])
        self.assertEqual(step_bound(code), 5)

    def test_step_bound(self):
        self.assertEqual(step_bound(code_of(program_of(""))), 2)
        code = main_code(("tick", 0), ONE, ("drop",), ("tick", 1), ONE, ("drop",), ONE, ("drop",), ("jump", 0), *TAIL)
        self.assertEqual(step_bound(code), 6)
        code = main_code(END, ("halt",), ("jump", 2))
        self.assertEqual(step_bound(code), 2)

    def test_lists_are_new(self):
        code = FAULTY[-1][0]
        found = shapes(code)
        found[0].append(1)
        self.assertNotEqual(shapes(code), found)
        bad = FAULTY[0][0]
        code_fault(bad)[2][0].append(1)
        self.assertEqual(code_fault(bad), ("lacks", 0, [[0]]))


if __name__ == "__main__":
    unittest.main()
