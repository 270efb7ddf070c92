"""[58] to [60]: codes that go alike, where codes part, least and shortened codes."""

import unittest

import slowlikeness
import slowpasses
import soundness
from makingcodes import ARRAYS, END, SCALARS, Codes
from makingruns import Runs
from patterndeeds.codes import code_of, is_code
from patterndeeds.errors import InvalidCode, UnsoundCode
from patterndeeds.folding import folded, swept, trimmed
from patterndeeds.likeness import code_parting, go_alike, is_code_parting, least_code
from patterndeeds.machine import outcome
from patterndeeds.parser import program_of
from patterndeeds.shortening import shortened
from patterndeeds.walker import walk
from helper import MANY, VALUES, Case, Row, exchanged, random_of

ONE, UNSET = ("constant", ("number", 1, 1)), ("constant", ("unset",))
TAIL = (END, ("halt",))


def code_with(rows, function=(UNSET, ("return",))):
    return (SCALARS, ARRAYS, 1, (("", (), tuple(rows)), ("f", ("value",), tuple(function))))


class TestLikeness(Case):

    def test_by_hand(self):
        code = code_with((("tick", 0), ("name", "x"), ("jump_if", True, 0), ("tick", 1)) + TAIL)
        for rows, way in [
                ((("tick", 0), ("name", "x"), ("jump_if", True, 0), ("tick", 1)) + TAIL, None),
                ((("jump", 1), ("tick", 0), ("name", "x"), ("jump_if", True, 1), ("jump", 6), ("halt",), ("tick",
                1)) + TAIL,
                 None),
                ((("tick", 0), ("name", "x"), ("jump_if", True, 4), ("jump", 7), ("tick", 0), ("name", "x"),
                  ("jump_if", True, 0), ("tick", 1)) + TAIL, None),
                ((("tick", 2), ("name", "x"), ("jump_if", True, 0), ("tick", 1)) + TAIL, (0, False, ())),
                ((("tick", 0), ("name", "x"), ("jump_if", False, 0), ("tick", 1)) + TAIL, (0, False, (False, False))),
                ((("tick", 0), ("name", "x"), ("jump_if", True, 4), ("tick", 1), ("tick", 0), ("name", "x"),
                  ("jump_if", True, 0), ("tick", 1)) + TAIL, (0, False, (False, False, False, False))),
                ((("tick", 0), ("name", "x"), ("jump_if", True, 3), ("tick", 1)) + TAIL, (0, False, (False, False,
                True))),
                ((("tick", 0), ("name", "x"), ("jump_if", True, 0), ("tick", 1), END, ("exit", False)), (0, True,
                (False,))),
                ((("tick", 0), ("name", "x"), ("jump_if", True, 0), ("halt",)) + TAIL, (0, False, (False, False,
                False)))]:
            other = code_with(rows)
            self.assertEqual(go_alike(code, other), way is None, rows)
            self.assertEqual(code_parting(code, other), way, rows)
            self.assertEqual(code_parting(other, code), way, rows)
            self.assertEqual(least_code(code) == least_code(other), way is None)
            if way is not None:
                self.assertIs(is_code_parting(code, other, way), True)
        other = code_with(code[3][0][2], (ONE, ("return",)))
        self.assertEqual(code_parting(code, other), (1, False, ()))

    def test_both_bodies(self):
        """Of ways as long as each other the least one, then the least body and entry."""
        code = code_with((("tick", 0), ("halt",)) + TAIL)
        other = code_with((("tick", 0), ("exit", False), END, ("tick", 1), ("halt",)), (UNSET, ("not",), ("return",)))
        self.assertEqual(code_parting(code, other), (0, False, (False,)))
        other = code_with((("tick", 0), ("halt",), END, ("tick", 1), ("halt",)), (UNSET, ("not",), ("return",)))
        self.assertEqual(code_parting(code, other), (0, True, (False,)))
        other = code_with((("tick", 0), ("halt",)) + TAIL, (UNSET, ("not",), ("return",)))
        self.assertEqual(code_parting(code, other), (1, False, (False,)))
        code = code_with((("tick", 0), ("record", 3), ("tick", 1), ("tick", 2), ("halt",)) + TAIL)
        other = code_with((("tick", 0), ("record", 3), ("tick", 7), ("tick", 8), ("halt",)) + TAIL)
        self.assertEqual(code_parting(code, other), (0, False, (False, False)))
        other = code_with((("tick", 0), ("record", 4), ("tick", 1), ("tick", 2), ("tick", 8), ("halt",)) + TAIL)
        self.assertEqual(code_parting(code, other), (0, False, (False, True)))

    def test_what_goes_on_to_what_it_names(self):
        """A next always does, next_key, record and jump_if may, others never do."""
        walk, a = ("walk", ("global", "a")), ("global", "a")
        for rows, other_rows, way in [
                ((("tick", 0), ("next", 3), ("halt",), ("tick", 1), ("halt",)),
                 (("tick", 0), ("next", 3), ("halt",), ("tick", 2), ("halt",)), (False, True)),
                ((("tick", 0), ("next", 3), ("halt",), ("tick", 1), ("halt",)),
                 (("tick", 0), ("next", 3), ("tick", 7), ("tick", 1), ("halt",)), None),
                ((walk, ("tick", 0), ("next_key", 5), ("drop",), ("jump", 1), ("tick", 1), ("halt",)),
                 (walk, ("tick", 0), ("next_key", 5), ("drop",), ("jump", 1), ("tick", 2), ("halt",)), (False, False,
                 True)),
                ((walk, ("tick", 0), ("next_key", 5), ("drop",), ("jump", 1), ("tick", 1), ("halt",)),
                 (walk, ("tick", 0), ("next_key", 5), ("not",), ("exit", False), ("tick", 1), ("halt",)),
                 (False, False, False)),
                ((("tick", 0), ("record", 3), ("halt",), ("tick", 1), ("halt",)),
                 (("tick", 0), ("record", 3), ("halt",), ("tick", 2), ("halt",)), (False, True)),
                ((("tick", 0), ("size", a), ("jump_if", True, 4), ("halt",), ("tick", 1), ("halt",)),
                 (("tick", 0), ("size", a), ("jump_if", True, 4), ("halt",), ("tick", 2), ("halt",)),
                 (False, False, True))]:
            code, other = code_with(rows + TAIL), code_with(other_rows + TAIL)
            self.assertEqual(code_parting(code, other), None if way is None else (0, False, way), rows)
            self.assertIs(go_alike(code, other), way is None)
            if way is not None:
                self.assertIs(is_code_parting(code, other, (0, False, way)), True)
                self.assertIs(is_code_parting(code, other, (0, False, way[:-1] + (not way[-1],))), False)
                self.assertIs(is_code_parting(code, other, (0, False, (True,) + way[1:])), False)

    def test_ways_as_long_as_each_other(self):
        """The least way comes first, wherever the others part."""
        rows = [("tick", 0), ("range", 0), ("jump_if", True, 9), ("range", 0), ("jump_if", True, 7), ("tick", 1),
                ("halt",),
                ("tick", 2), ("halt",), ("range", 0), ("jump_if", True, 13), ("tick", 3), ("halt",), ("tick", 4),
                ("halt",)]
        code = code_with(tuple(rows) + TAIL)
        ways = {5: (False, False, False, False, False), 7: (False, False, False, False, True),
                11: (False, False, True, False, False), 13: (False, False, True, False, True)}
        for chosen in [(7, 11), (11, 13), (5, 13), (7, 13), (5, 7, 11, 13), (13,), (7, 11, 13)]:
            made = [("tick", 9) if at in chosen else row for at, row in enumerate(rows)]
            other = code_with(tuple(made) + TAIL)
            self.assertEqual(code_parting(code, other), (0, False, ways[chosen[0]]), chosen)
            self.assertEqual([at for at, way in ways.items() if is_code_parting(code, other, (0, False, way))],
                    list(chosen))

    def test_unlike_heads(self):
        code = code_with((("tick", 0), ("halt",)) + TAIL)
        for path, worth in [((0,), tuple(sorted(SCALARS + ("z",)))), ((1,), ("a",)), ((2,), 2), ((3, 1, 0), "g"),
                ((3, 1, 1), ("array",)), ((3,), code[3][:1])]:
            other = exchanged(code, path, worth)
            self.assertIs(is_code(other), True)
            self.assertIs(go_alike(code, other), False)
            self.assertIsNone(code_parting(code, other))
            self.assertIs(is_code_parting(code, other, (0, False, ())), False)

    def pairs(self, many, seed):
        """Pairs of codes, many of them nearly or wholly alike."""
        random = random_of(seed)
        maker = Codes(random)
        for _ in range(many):
            code = maker.code(random.choice([8, 15, 30]))
            other = slowlikeness.mixed(code, random, random.choice([1, 2, 3]))
            if random.random() < 0.6:
                changed = maker.changed(other)
                if is_code(changed) and slowpasses_sound(changed):
                    other = changed
            if random.random() < 0.1:
                other = maker.code(10)
            yield code, other

    def test_against_slow_ones(self):
        """[L2], and what parts two codes, by going through all ways."""
        found = {True: 0, False: 0}
        for code, other in self.pairs(150 * MANY, "likeness"):
            alike = slowlikeness.go_alike(code, other)
            self.assertIs(go_alike(code, other), alike, (code, other))
            parting = code_parting(code, other)
            slow = slowlikeness.partings(code, other, 5)
            if parting is None or len(parting[2]) <= 5:
                self.assertEqual(parting, slow, (code, other))
            else:
                self.assertIsNone(slow)
            if parting is not None:
                self.assertIs(is_code_parting(code, other, parting), True)
                self.assertTrue(slowlikeness.is_parting(code, other, *parting))
            if slowlikeness.heads(code) == slowlikeness.heads(other):
                self.assertEqual(parting is None, alike)
                self.assertEqual(least_code(code) == least_code(other), alike, (code, other))
            found[alike] += 1
        self.assertGreater(min(found.values()), 20)

    def test_is_code_parting(self):
        random = random_of("ways")
        for code, other in self.pairs(60 * MANY, "partings"):
            for _ in range(60):
                way = tuple(random.random() < 0.3 for _ in range(random.randrange(7)))
                number, entry = random.randrange(len(code[3]) + 1), random.random() < 0.4
                self.assertIs(is_code_parting(code, other, (number, entry, way)),
                              slowlikeness.is_parting(code, other, number, entry, way), (code, other, number, entry,
                              way))

    def test_any_parting(self):
        code = code_with((("tick", 0), ("record", 3), ("tick", 1), ("tick", 2), ("halt",)) + TAIL)
        other = code_with((("tick", 0), ("record", 3), ("tick", 7), ("tick", 8), ("halt",)) + TAIL)
        for value, wanted in [((0, False, (False, False)), True), ((0, False, (False, True)), True), ((0, False,
                (False,)), False),
                ((0, False, (False, False, False)), True), ((0, False, (False, False, False, False)), False),
                ((0, False, (True,)), False), ((0, True, ()), False), ((1, False, ()), False), ((2, False, ()), False),
                ((-1, False, ()), False), ((False, False, (False, False)), False), ((0, 0, (False, False)), False),
                ((0, None, (False, False)), False), ((0, False, [False, False]), False), ((0, False, (0, 0)), False),
                ((0, False, (False, 0)), False), ((0, False, (False, None)), False), ([0, False, (False, False)],
                False),
                (Row((0, False, (False, False))), False), ((0, False), False), ((0, False, (False, False), 1), False),
                ((0, False, Row((False, False))), False), ((10 ** 80, False, ()), False), (("0", False, ()), False)]:
            self.assertIs(is_code_parting(code, other, value), wanted, value)
        for value in VALUES:
            self.assertIs(is_code_parting(code, other, value), False)

    def test_errors(self):
        code, bad = code_with((("tick", 0), ("halt",)) + TAIL), code_with((("drop",),) + TAIL)
        for action in [go_alike, code_parting]:
            for value in VALUES[:20]:
                self.raises(InvalidCode, action, value, code)
                self.raises(InvalidCode, action, bad, value)
            self.raises(UnsoundCode, action, bad, code)
            self.raises(UnsoundCode, action, code, bad)
        self.raises(InvalidCode, is_code_parting, bad, None, None)
        self.raises(UnsoundCode, is_code_parting, bad, code, None)
        self.raises(UnsoundCode, is_code_parting, code, bad, None)
        for action in [least_code, shortened]:
            self.raises(UnsoundCode, action, bad)
            for value in VALUES:
                self.raises(InvalidCode, action, value)


def slowpasses_sound(code):
    try:
        soundness.shapes(code)
    except AssertionError:
        return False
    return True


class TestLeast(Case):

    def test_by_hand(self):
        for rows, wanted in [
                ((("jump", 2), ("tick", 9), ("tick", 0), ("jump", 4), ("halt",)) + TAIL,
                 (("tick", 0), ("halt",), END, ("jump", 1))),
                (TAIL, TAIL),
                ((END, ("jump", 3), ("tick", 1), ("tick", 2), ("jump", 2)), (END, ("tick", 2), ("tick", 1), ("jump",
                1))),
                ((("tick", 0), ("name", "x"), ("jump_if", True, 6), ("name", "y"), ("set_name", "x"), ("halt",),
                ("name", "y"),
                  ("set_name", "x"), ("exit", False), END, ("exit", False)),
                 (("tick", 0), ("name", "x"), ("jump_if", True, 8), ("name", "y"), ("set_name", "x"), ("halt",), END,
                  ("exit", False), ("name", "y"), ("set_name", "x"), ("exit", False))),
                ((("tick", 0), ("name", "x"), ("jump_if", True, 6), ("name", "y"), ("drop",), ("halt",), ("name", "y"),
                  ("drop",), ("jump", 10), END, ("halt",)),
                 (("tick", 0), ("name", "x"), ("jump_if", True, 3), ("name", "y"), ("drop",), ("halt",), END, ("jump",
                 5))),
                # What goes alike on unlike stacks stays apart.
                ((("tick", 0), ("name", "x"), ("jump_if", True, 4), ("halt",), ONE, ("halt",)) + TAIL,
                 (("tick", 0), ("name", "x"), ("jump_if", True, 6), ("halt",), END, ("jump", 3), ONE, ("halt",)))]:
            self.assertEqual(least_code(code_with(rows)), code_with(wanted), rows)

    def test_strips(self):
        rows = (("name", "x"), ("jump_if", True, 5), ("name", "x"), ("jump_if", False, 7), ("halt",), ("tick", 1),
                ("jump", 0), ("tick", 2), ("jump", 2)) + TAIL
        wanted = (("name", "x"), ("jump_if", True, 7), ("name", "x"), ("jump_if", False, 9), ("halt",), END, ("halt",),
                  ("tick", 1), ("jump", 0), ("tick", 2), ("jump", 2))
        made = least_code(code_with(rows))[3][0][2]
        # Both halts have one shape, so they are one, and a jump to it ends the strip of the end phase.
        self.assertEqual(made, wanted[:6] + (("jump", 4),) + wanted[7:])

    def test_against_slow_ones(self):
        """[L1], [L4]: the layout, its own least code, the fewest instructions, one outcome."""
        random = random_of("least")
        maker = Codes(random)
        for _ in range(120 * MANY):
            code, world = maker.code(random.choice([8, 15, 30])), maker.world()
            least = least_code(code)
            self.assertEqual(least, slowlikeness.least(code), code)
            self.assertIs(is_code(least), True)
            self.assertEqual(least_code(least), least)
            self.assertIs(go_alike(code, least), True)
            other = slowlikeness.mixed(code, random, 3)
            self.assertIs(is_code(other), True)
            self.assertEqual(least_code(other), least, (code, other))
            for one in [code, other]:
                many = [len(slowlikeness.reached(one, number)) for number in range(len(code[3]))]
                made = [len([row for row in body[2] if row[0] != "jump"]) for body in least[3]]
                self.assertTrue(all(new <= old for new, old in zip(made, many)))
            for count in range(0, 20, 3):
                self.assertEqual(outcome(least, world, count), outcome(code, world, count))
                self.assertEqual(outcome(other, world, count), outcome(code, world, count))


class TestShortened(Case):

    def check(self, code, world):
        made = shortened(code)
        self.assertIs(is_code(made), True)
        for name in ["folded", "trimmed"]:
            self.assertEqual([one for one in slowpasses.left_to_do(made, name) if not self.is_laid_jump(made, one)], [])
        self.assertEqual(least_code(swept(trimmed(folded(made)))), made)
        self.assertEqual(shortened(made), made)
        self.assertEqual(made, slowlikeness.least(made))
        ticks = {row for body in made[3] for row in body[2] if row[0] == "tick"}
        for count in [0, 1, 2, 5, 9, 30]:
            told = outcome(code, world, count)
            self.assertEqual(outcome(made, world, count), told)
            if told[1][0] == "tick":
                self.assertIn(told[1], ticks)
        return made

    def is_laid_jump(self, code, found):
        """Whether what a pass would do yet is due to a jump that ends a strip."""
        return code[3][found[0]][2][found[1]][0] in slowlikeness.NUMBER_OF_NAMED

    def test_programs(self):
        random = random_of("shortened")
        maker = Runs(random)
        for _ in range(50 * MANY):
            program, world = maker.program(random.choice([3, 4, 5])), maker.world()
            code = code_of(program)
            made = self.check(code, world)
            for count in [0, 1, 4, 20]:
                self.assertEqual(outcome(made, world, count), walk(program, world, count))

    def test_codes(self):
        random = random_of("shortened codes")
        maker = Codes(random)
        for _ in range(60 * MANY):
            self.check(maker.code(random.choice([10, 20, 40])), maker.world())

    def test_by_hand(self):
        program = program_of("BEGIN { if (1 < 2) y = 2 * 3; else y = 4; while (!0) { z; break } if (!x) y = 6 }")
        made = shortened(code_of(program))
        six = ("constant", ("number", 6, 1))
        self.assertEqual(made[3][0][2], (("tick", 1), ("tick", 2), ("tick", 3), six, ("set_name", "y"), ("drop",),
                ("tick", 5),
                ("tick", 6), ("tick", 7), ("tick", 8), ("name", "x"), ("jump_if", True, 16), ("tick", 9), six,
                ("set_name", "y"), ("drop",), END, ("halt",)))


if __name__ == "__main__":
    unittest.main()
