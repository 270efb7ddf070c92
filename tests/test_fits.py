"""[53]: which values are held states that fit a code and a world."""

import unittest

import slowholding
from makingcodes import ARRAYS, END, SCALARS, Codes
from patterndeeds.checker import shapes
from patterndeeds.codes import code_of
from patterndeeds.errors import InvalidCode, InvalidHeld, InvalidWorld, UnsoundCode
from patterndeeds.heldtexts import held_text
from patterndeeds.machine import begun, end_of, fits, go, step, told
from patterndeeds.parser import program_of
from helper import MANY, VALUES, Case, Number, Row, Text, exchanged, leaf_paths, part_at, random_of

SOURCE = """BEGIN { a["k"] = 1; a["l"] = 2; getline x < "f"; print "w" > "o"; print "v" }
function f(p, q) { for (k in q) { q[p] = g(q) } return 1 }
function g(r, s) { s["own"] = 3; return h(s) + h(r) }
function h(t) { for (k in t) x = x y; getline; return t["u"] 1 / z }
1, 2 { y = f($1, a); exit 3 }
END { exit 4 }"""
WORLD = ((("m", "1 2\n3 4\n", True), ("m", "5\n", False)), (("<", "f", "line\nline\n", True), ("|", "f", "", False)))
PARTS = [None, True, False, 0, 1, -1, 2, 3, 4, 7, 99, 10 ** 80, "", "x", "a", "value", "begin", "main", "end", "over",
         (), (1,), ("over", 0), ("over", 3), ("error", "deep", 0), ("error", "divide", 2), ("unset",),
         ("number", 1, 1), ("number", 2, 2), ("number", 10 ** 60, 1), ("number", 10 ** 60 + 1, 1), ("number", 1, 0),
         ("number", True, 1), ("text", "a"), ("seen", "a"), ("text", "a" * 4000), ("text", "a" * 4001),
         ("text", "\r"), ("global", "a"), ("global", "x"), ("global", "f"), ("own", 0, 0), ("own", 0, 1),
         ("own", 1, 0), ("own", 1, 1), ("own", 2, 0), ("own", -1, 1), ("own", True, 1), ("table", ()),
         ("table", (("a", ("unset",)),)), ("walk", ("global", "a"), ("k", "l")), ("walk", ("global", "a"), ("l", "k")),
         ("walk", ("own", 1, 1), ()), ("walk", ("global", "a"), ("k", "k")), [], "\n", "%",
         (("a", ("unset",)), ("b", ("unset",))), (("b", ("unset",)), ("a", ("unset",))),
         (("a", ("unset",)), ("a", ("unset",)))]


def states_of(code, world, most):
    """The held states of a run, instruction by instruction."""
    held = begun(code)
    found = [held]
    while len(found) < most and end_of(code, world, held)[0] in ("step", "tick", "error"):
        if held[0] is not None:
            break
        held = step(code, world, held)[0]
        found.append(held)
    return found


class TestFits(Case):

    def test_states_of_runs(self):
        """Each state that a run comes to fits, and so does each behind a step of it [M1]."""
        random = random_of("states")
        maker = Codes(random)
        for _ in range(80 * MANY):
            code, world = maker.code(random.choice([10, 20, 40])), maker.world()
            for held in states_of(code, world, 60):
                self.assertIs(fits(code, world, held), True, (code, held))
                self.assertTrue(slowholding.fits(code, world, held))

    def test_each_part_exchanged(self):
        code = code_of(program_of(SOURCE))
        states = states_of(code, WORLD, 400)
        self.assertEqual(states[-1][0], ("error", "divide", states[-1][1]))
        self.assertEqual(max(len(held[4]) for held in states), 3)
        random = random_of("parts")
        chosen = [held for held in states if len(held[4]) == 3][:1] + random.sample(states, min(MANY,
                len(states))) + states[-1:]
        seen = set()
        for held in chosen:
            paths = leaf_paths(held)
            for path in [path for path in paths if len(path) < 3] + random.sample(paths, min(120, len(paths))):
                for worth in random.sample(PARTS, 25 if len(path) < 4 else 6):
                    value = exchanged(held, path, worth)
                    wanted = slowholding.fits(code, WORLD, value)
                    self.assertIs(fits(code, WORLD, value), wanted, (path, worth, held))
                    seen.add(wanted)
        self.assertEqual(seen, {True, False})

    def test_parts_left_out_and_put_in(self):
        code = code_of(program_of(SOURCE))
        states = states_of(code, WORLD, 400)
        for held in [held for held in states if len(held[4]) == 3][:1] + states[20:21] + states[-1:]:
            for path in leaf_paths(held):
                part = part_at(held, path)
                if type(part) is tuple and part:
                    for made in [part[1:], part[:-1], part[::-1], part + part[-1:], part[:1] + part, list(part),
                                 Row(part), part + (None,)]:
                        value = exchanged(held, path, made)
                        if type(made) is tuple:
                            wanted = slowholding.fits(code, WORLD, value)
                            self.assertIs(fits(code, WORLD, value), wanted, (path, made, held))
                        else:
                            self.assertIs(fits(code, WORLD, value), False)
                elif type(part) is str:
                    self.assertIs(fits(code, WORLD, exchanged(held, path, Text(part))), False)
                elif type(part) is int:
                    for made in [part + 1, part - 1, float(part), Number(part), str(part)]:
                        value = exchanged(held, path, made)
                        wanted = type(made) is int and slowholding.fits(code, WORLD, value)
                        self.assertIs(fits(code, WORLD, value), wanted, (path, made, held))

    def test_random_parts(self):
        random = random_of("random parts")
        maker = Codes(random)
        for _ in range(60 * MANY):
            code, world = maker.code(random.choice([10, 20, 40])), maker.world()
            for held in random.sample(states_of(code, world, 40), 1):
                paths = leaf_paths(held)
                parts = PARTS + [part_at(held, path) for path in random.sample(paths, min(10, len(paths)))]
                for _ in range(60):
                    value = exchanged(held, random.choice(paths), random.choice(parts))
                    self.assertIs(fits(code, world, value), slowholding.fits(code, world, value), (code, world, value))

    def test_steps_of_what_fits(self):
        """[M1], [M2]: whatever fits does its instruction, fails or waits, and what comes of it fits."""
        random = random_of("steps")
        maker = Codes(random)
        ends = set()
        for _ in range(60 * MANY):
            code, world = maker.code(random.choice([10, 20, 40])), maker.world()
            held = random.choice(states_of(code, world, 40))
            paths = leaf_paths(held)
            parts = PARTS + [part_at(held, path) for path in random.sample(paths, min(10, len(paths)))]
            for _ in range(50):
                value = exchanged(held, random.choice(paths), random.choice(parts))
                if fits(code, world, value):
                    new = step(code, world, value)[0]
                    self.assertIs(fits(code, world, new), True, (code, world, value))
                    end = end_of(code, world, value)
                    self.assertEqual(new == value, end[0] in ("more", "over", "error"))
                    ends.add((new[0] or end)[0])
        self.assertTrue({"step", "tick", "over"} <= ends, ends)

    def test_any_value(self):
        code = code_of(program_of(SOURCE))
        for value in VALUES + [(None,) * 6, (None, 0, (0, 0), (), (), ())]:
            self.assertIs(fits(code, WORLD, value), False)

    def test_by_hand(self):
        """What [53] names, just within and just beyond."""
        code = code_of(program_of("{ f(a); x = NF } function f(p, q) { p[1]; exit }"))
        held = go(code, WORLD, begun(code), 4)[2]
        call = ("f", (("global", "a"), ("unset",)), 0, held[4][0][3])
        self.assertEqual(held[4], (call,))
        for path, worth, wanted in [((1,), 10 ** 80, True), ((1,), -1, False), ((5, 1), 10 ** 80, True),
                ((5, 1), -5, True), ((5, 0), "end", True), ((5, 0), "over", False), ((5, 0), "", False),
                ((5, 5), ("any text", ("", "b")), True), ((5, 5), ("x", ()), False),
                ((5, 6), (1, 2, ()), True), ((5, 6), (1, 3, ()), False), ((5, 6), (2, 0, ()), False),
                ((5, 6), (0, 8, ()), True), ((5, 6), (0, 9, ()), False), ((5, 6), (-1, 0, ()), True),
                ((5, 6), (-1, 1, ()), False), ((5, 6), (-2, 0, ()), False),
                ((5, 6), (0, 0, (("<", "f", 10),)), True), ((5, 6), (0, 0, (("<", "f", 11),)), False),
                ((5, 6), (0, 0, (("|", "f", 0), ("<", "f", 0))), False), ((5, 6), (0, 0, (("<", "g", 0),)), False),
                ((5, 6), (0, 0, (("<", "f", 0), ("|", "f", 0))), True),
                ((5, 6), (0, 0, (("<", "f", 0), ("<", "f", 1))), False),
                ((5, 7), (("", "", "x" * 5000, True),), True), ((5, 7), (("", "", "", False),), False),
                ((5, 7), (("", "x", "", True),), False), ((5, 7), ((">>", "x", "", True),), False),
                ((5, 7), (("|", "x", "", False), (">", "x", "", True), (">", "", "", False)), True),
                ((5, 7), (("|", "x", "", False), ("|", "x", "", True)), False),
                ((0,), ("error", "deep", held[1]), True), ((0,), ("error", "deep", held[1] + 1), False),
                ((0,), ("error", "more", held[1]), False), ((0,), ("over", 0), False), ((0,), ("tick", 1), False),
                ((4, 0, 2), 1, False), ((4, 0, 3, 2), 10 ** 70, True), ((4, 0, 3, 2), -1, False),
                ((4, 0, 3, 1), held[4][0][3][1] + 1, False), ((4, 0, 3, 0), 1, False),
                ((4, 0, 1), (("own", 0, 1), ("unset",)), False), ((4, 0, 1), (("table", ()), ("unset",)), True),
                ((4, 0, 1), (("table", (("b", ("unset",)), ("a", ("unset",)))), ("unset",)), False),
                ((4,), (), False), ((4,), (call, call), False), ((2,), (0, 0), False), ((2,), (1, 0), True)]:
            self.assertIs(fits(code, WORLD, exchanged(held, path, worth)), wanted, (path, worth))
        self.assertIs(fits(code, ((), ()), held), False)
        over = go(code, WORLD, held, 99)[2]
        self.assertEqual(over[0], ("over", 0))
        for path, worth, wanted in [((5, 1), 1, False), ((0, 1), 1, False), ((2, 1), 0, False), ((3,), (("unset",),),
                False),
                ((5, 0), "end", False), ((0,), None, False), ((1,), 77, True), ((0, 1), False, False)]:
            self.assertIs(fits(code, WORLD, exchanged(over, path, worth)), wanted, (path, worth))

    def test_words_of_errors(self):
        code = code_of(program_of(""))
        held = begun(code)
        for word in ["divide", "power", "great", "long", "field", "pattern", "format", "deep"]:
            for place, wanted in [(0, True), (1, False), (False, False)]:
                self.assertIs(fits(code, ((), ()), (("error", word, place),) + held[1:]), wanted, word)
            self.assertIs(fits(code, ((), ()), (("error", Text(word), 0),) + held[1:]), False)
            self.assertIs(fits(code, ((), ()), (("error", word),) + held[1:]), False)
            self.assertIs(fits(code, ((), ()), (("error", word, 0, 0),) + held[1:]), False)

    def test_own_tables(self):
        """A reference to a table of a call leads to one not later than its holder."""
        code = (SCALARS, ARRAYS, 0, (("", (), (("call", "f", 0), ("halt",), END, ("halt",))),
                ("f", ("array", "array"), (("walk", ("local", 0)), ("array", ("local", 1)), ("call", "f", 1),
                                            ("return",)))))
        world = ((), ())
        held = begun(code)
        for _ in range(8):
            held = step(code, world, held)[0]
        self.assertEqual([call[1] for call in held[4]], [(("table", ()), ("table", ())), (("own", 0, 1), ("table", ())),
                                                         (("own", 1, 1), ("table", ()))])
        self.assertEqual(held[3], (("walk", ("own", 0, 0), ()), ("walk", ("own", 0, 1), ()), ("walk", ("own", 1, 1),
                ())))
        for path, worth, wanted in [((4, 1, 1, 0), ("own", 0, 0), True), ((4, 1, 1, 0), ("own", 1, 1), True),
                ((4, 1, 1, 0), ("own", 2, 1), False), ((4, 1, 1, 0), ("own", 1, 0), False),
                ((4, 1, 1, 0), ("own", 0, 2), False), ((4, 2, 1, 0), ("own", 1, 0), False),
                ((4, 2, 1, 0), ("own", 2, 1), True), ((3, 0, 1), ("own", 0, 1), True), ((3, 0, 1), ("own", 1, 1),
                False),
                ((3, 1, 1), ("own", 1, 1), True), ((3, 1, 1), ("own", 2, 1), False), ((3, 2, 1), ("own", 2, 1), True),
                ((3, 2, 1), ("own", 3, 1), False), ((3, 2, 1), ("global", "b"), True), ((3, 2, 1), ("global", "c"),
                False),
                ((3, 2, 2), ("a", "b"), True), ((3, 2, 2), ("b", "a"), False), ((3, 2), ("unset",), False),
                ((4, 0, 1, 0), ("global", "a"), False), ((4, 0, 1, 1), ("global", "a"), False)]:
            self.assertIs(fits(code, world, exchanged(held, path, worth)), wanted, (path, worth))

    def test_arrays_on_the_stack(self):
        """A reference on the stack leads to a table of a call that is not later than that of its part."""
        main = (("array", ("global", "a")), ("call", "f", 0), ("halt",), END, ("halt",))
        rows = (("array", ("local", 0)), ("call", "f", 0), ("return",))
        code = (SCALARS, ARRAYS, 0, (("", (), main), ("f", ("array",), rows)))
        world = ((), ())
        held = begun(code)
        for _ in range(6):
            held = step(code, world, held)[0]
        self.assertEqual(held[3], (("global", "a"), ("own", 0, 0), ("own", 1, 0)))
        self.assertEqual(len(held[4]), 3)
        for at, worth, wanted in [(0, ("own", 0, 0), False), (0, ("global", "b"), True), (1, ("own", 0, 0), True),
                (1, ("own", 1, 0), False), (1, ("global", "b"), True), (2, ("own", 0, 0), True),
                (2, ("own", 2, 0), False), (2, ("own", 1, 1), False), (2, ("own", 1), False), (2, ("unset",), False)]:
            value = exchanged(held, (3, at), worth)
            self.assertIs(slowholding.fits(code, world, value), wanted, (at, worth))
            self.assertIs(fits(code, world, value), wanted, (at, worth))

    def test_calls_that_are_not_reached(self):
        """The row back stands behind a call that is reached, whatever else leads to it."""
        for ahead, wanted in [(("constant", ("unset",)), False), (("call", "f", 0), True)]:
            main = (ahead, ("jump", 3), ("call", "f", 0), ("drop",), ("halt",), END, ("halt",))
            rows = (("tick", 1), ("constant", ("unset",)), ("return",))
            code = (SCALARS, ARRAYS, 0, (("", (), main), ("f", (), rows)))
            for row in [1, 3]:
                held = (None, 0, (1, 0), (), (("f", (), 0, (0, row, 0)),), begun(code)[5])
                self.assertIs(slowholding.fits(code, ((), ()), held), wanted and row == 1)
                self.assertIs(fits(code, ((), ()), held), wanted and row == 1)

    def test_sixteen_calls(self):
        code = code_of(program_of("BEGIN { f() } function f() { f() }"))
        world = ((), ())
        states = states_of(code, world, 200)
        held = states[-1]
        self.assertEqual((held[0], len(held[4])), (("error", "deep", 3), 16))
        self.assertIs(fits(code, world, held), True)
        more = held[:4] + (held[4] + (held[4][-1],),) + held[5:]
        self.assertIs(fits(code, world, more), False)
        self.assertIs(fits(code, world, more[:4] + (more[4][:15],) + more[5:]), True)

    def test_some_world(self):
        """told and held_text want a state that fits some world."""
        code = code_of(program_of(SOURCE))
        held = begun(code)
        for index, at, asides, wanted in [(5, 99, (("<", "none", 7),), True), (10 ** 80, 10 ** 80, (), True),
                (-1, 1, (), False), (-2, 0, (), False), (0, -1, (), False), (0, 0, (("", "f", 1),), False)]:
            value = exchanged(held, (5, 6), (index, at, asides))
            self.assertIs(slowholding.fits(code, None, value), wanted)
            if wanted:
                self.assertEqual(told(code, value)[1], value[5])
                held_text(code, value)
            else:
                self.raises(InvalidHeld, told, code, value)
                self.raises(InvalidHeld, held_text, code, value)

    def test_errors(self):
        code, bad = code_of(program_of("")), (SCALARS, ARRAYS, 0, (("", (), (("drop",), END, ("halt",))),))
        held = begun(code)
        self.assertEqual(len(shapes(code)), 1)
        for action in [step, end_of, fits]:
            self.raises(InvalidCode, action, None, None, None)
            self.raises(UnsoundCode, action, bad, None, None)
            self.raises(InvalidWorld, action, code, None, None)
        for action in [step, end_of]:
            for value in VALUES + [exchanged(held, (1,), -1)]:
                self.raises(InvalidHeld, action, code, ((), ()), value)


if __name__ == "__main__":
    unittest.main()
