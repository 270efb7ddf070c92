"""A small code, a world and a held state: what the functions of codes, the checker, the machine and texts answer.

Each of them has to judge the code and the state as a whole, so that this is asked of them with each part
exchanged, too.
"""

import unittest

import slowfaults
import slowholding
import soundness
from patterndeeds.checker import code_fault, is_code_fault, shapes, step_bound
from patterndeeds.codes import is_code
from patterndeeds.errors import InvalidCode, InvalidCount, InvalidHeld, InvalidText, InvalidWorld, UnsoundCode
from patterndeeds.heldtexts import held_of, held_text
from patterndeeds.machine import begun, end_of, fits, go, step, told
from patterndeeds.signs import is_text
from patterndeeds.worlds import is_world
from helper import MANY, VALUES, Case, exchanged, leaf_paths, part_at, random_of
from test_fits import PARTS
from test_heldtexts import slow_index, slow_read

NAMES = ("FILENAME", "FNR", "FS", "NF", "NR", "OFS", "ORS", "RLENGTH", "RS", "RSTART", "SUBSEP", "x")
MAIN = (("tick", 1), ("walk", ("global", "a")), ("array", ("global", "a")), ("constant", ("text", "m")),
        ("call", "f", 2), ("drop",), ("drop",), ("phase", "end"), ("halt",))
F = (("tick", 2), ("constant", ("number", 1, 2)), ("array", ("local", 2)), ("call", "g", 1), ("join",), ("return",))
G = (("tick", 3), ("walk", ("local", 0)), ("tick", 4), ("next_key", 6), ("drop",), ("jump", 2),
     ("constant", ("unset",)), ("return",))
CODE = (NAMES, ("a", "b"), 1, (("", (), MAIN), ("f", ("array", "value", "array"), F), ("g", ("array",), G)))
WORLD = ((("m", "ab\ncd\n", True), ("n", "ef", False)), (("<", "q", "gh\n", True), ("|", "q", "", False)))
V, A, K = "value", "array", "walk"
SHAPES = [[(), (), (K,), (K, A), (K, A, V), (K, V), (K,), (), ()], [(), (), (V,), (V, A), (V, V), (V,)],
          [(), (), (K,), (K,), (K, V), (K,), (), (V,)]]
ZERO = ("number", 0, 1)
SCALARS = (("FILENAME", ("text", "")), ("FNR", ZERO), ("FS", ("text", " ")), ("NF", ZERO), ("NR", ZERO),
           ("OFS", ("text", " ")), ("ORS", ("text", "\n")), ("RLENGTH", ("number", -1, 1)), ("RS", ("text", "\n")),
           ("RSTART", ZERO), ("SUBSEP", ("text", "\t")), ("x", ("unset",)))
ROOM = ("begin", 0, SCALARS, (("a", ()), ("b", ())), (False,), ("", ()), (-1, 0, ()), ())
CALLS = (("f", (("global", "a"), ("text", "m"), ("table", ())), 1, (0, 5, 1)), ("g", (("own", 0, 2),), 2, (1, 4, 2)))
BELOW = (("walk", ("global", "a"), ()), ("number", 1, 2))
HELD = (None, 4, (2, 3), BELOW + (("walk", ("own", 0, 2), ()),), CALLS, ROOM)
TEXT = ('(N,4,(2,3),(("walk",("global","a"),()),("number",1,2),("walk",("own",0,2),())),(("f",(("global","a"),'
        '("text","m"),("table",())),1,(0,5,1)),("g",(("own",0,2)),2,(1,4,2))),("begin",0,(("FILENAME",("text","")),'
        '("FNR",("number",0,1)),("FS",("text"," ")),("NF",("number",0,1)),("NR",("number",0,1)),("OFS",("text"," ")),'
        '("ORS",("text","\\n")),("RLENGTH",("number",-1,1)),("RS",("text","\\n")),("RSTART",("number",0,1)),'
        '("SUBSEP",("text","\\t")),("x",("unset"))),(("a",()),("b",())),(F),("",()),(-1,0,()),()))')
UNSOUND = CODE[:3] + ((("", (), (("drop",),) + MAIN),) + CODE[3][1:],)


def slow_fits(world, value):
    return slowholding.fits(CODE, world, value)


class TestAnswers(Case):

    def test_code(self):
        self.assertIs(is_code(CODE), True)
        self.assertEqual(shapes(CODE), SHAPES)
        self.assertIsNone(code_fault(CODE))
        self.assertEqual(step_bound(CODE), 9)
        self.assertEqual(begun(CODE), (None, 0, (0, 0), (), (), ROOM))

    def test_state(self):
        self.assertEqual(step(CODE, WORLD, go(CODE, WORLD, begun(CODE), 3)[2]), (HELD, None))
        self.assertIs(fits(CODE, WORLD, HELD), True)
        self.assertEqual(end_of(CODE, WORLD, HELD), ("step",))
        self.assertEqual(told(CODE, HELD), (4, ROOM, tuple(call[:2] for call in CALLS)))
        behind = (None, 4, (2, 6), BELOW, CALLS, ROOM)
        self.assertEqual(step(CODE, WORLD, HELD), (behind, None))
        over = (("over", 0), 1, (0, 7), (), (), ("over",) + ROOM[1:])
        for count in [0, 1, 10 ** 80]:
            self.assertEqual(go(CODE, WORLD, HELD, count), (0, ("over", 0), over, []))
        for held in [over, (("error", "deep", 4),) + HELD[1:]]:
            self.assertIs(fits(CODE, WORLD, held), True)
            self.assertEqual(end_of(CODE, WORLD, held), held[0])
            self.assertEqual(step(CODE, WORLD, held), (held, None))
            self.assertEqual(go(CODE, WORLD, held, 1), (0, held[0], held, []))
            self.assertEqual(held_of(CODE, held_text(CODE, held)), held)
        self.assertEqual(end_of(CODE, WORLD, begun(CODE)), ("tick", 1))

    def test_text(self):
        self.assertEqual(held_text(CODE, HELD), TEXT)
        self.assertEqual(repr(held_of(CODE, TEXT)), repr(HELD))
        for at in range(len(TEXT)):
            self.raises_with(InvalidText, "index", at, held_of, CODE, TEXT[:at])
        self.raises_with(InvalidText, "index", len(TEXT), held_of, CODE, TEXT + ")")

    def test_what_waits(self):
        """Instructions that take a record may wait; in a world that has more they go on."""
        more = (WORLD[0][:1] + (("n", "ef\n", False),), (WORLD[1][0], ("|", "q", "i\n", False)))
        drops = (("drop",), ("jump", 0))
        for rows, many in [((("tick", 5), ("record", 3), ("jump", 0)), 7),
                           ((("tick", 5), ("read", "main", "value"), ("drop",)) + drops, 11),
                           ((("tick", 5), ("constant", ("text", "q")), ("read", "|", "record")) + drops, 2)]:
            code = CODE[:3] + ((("", (), rows + (("phase", "end"), ("halt",))),),)
            held = begun(code)
            for _ in range(many):
                self.assertIn(end_of(code, WORLD, held), [("tick", 5), ("step",)])
                held = step(code, WORLD, held)[0]
            self.assertEqual(end_of(code, WORLD, held), ("more", 5))
            self.assertEqual(step(code, WORLD, held), (held, None))
            self.assertEqual(go(code, WORLD, held, 1), (0, ("more", 5), held, []))
            self.assertEqual(end_of(code, more, held), ("step",))
            self.assertEqual(step(code, more, held)[1][0], "read")


class TestExchanged(Case):

    def check_state(self, value):
        """Checks what all functions answer of a value as a held state; whether it fits."""
        right, some = slow_fits(WORLD, value), slow_fits(None, value)
        self.assertIs(fits(CODE, WORLD, value), right, value)
        if right:
            new = step(CODE, WORLD, value)[0]
            self.assertTrue(slow_fits(WORLD, new), value)
            self.assertEqual(new == value, end_of(CODE, WORLD, value)[0] in ("over", "error"))
            self.assertTrue(slow_fits(WORLD, go(CODE, WORLD, value, 2)[2]), value)
            self.raises(InvalidCount, go, CODE, WORLD, value, -1)
        else:
            for action in [step, end_of]:
                self.raises(InvalidHeld, action, CODE, WORLD, value)
            self.raises(InvalidHeld, go, CODE, WORLD, value, -1)
        if some:
            self.assertEqual(told(CODE, value), (value[1], value[5], tuple(call[:2] for call in value[4])))
            self.assertEqual(slow_read(held_text(CODE, value)), value)
            self.assertEqual(repr(held_of(CODE, held_text(CODE, value))), repr(value))
        else:
            self.raises(InvalidHeld, told, CODE, value)
            self.raises(InvalidHeld, held_text, CODE, value)
        return right

    def test_parts_of_states(self):
        random = random_of("parts of a small state")
        states = [HELD, go(CODE, WORLD, begun(CODE), 2)[2], go(CODE, WORLD, HELD, 1)[2]]
        found = set()
        for held in states:
            self.assertTrue(self.check_state(held))
            paths = leaf_paths(held)
            for path in random.sample(paths, min(len(paths), 60 * MANY)) + [path for path in paths if len(path) < 3]:
                part = part_at(held, path)
                made = random.sample(PARTS, 5) + [part_at(held, random.choice(paths))]
                if type(part) is tuple:
                    made += [part[1:], part + part[-1:], part[::-1]]
                if type(part) is int:
                    made += [part + 1, part - 1]
                found |= {self.check_state(exchanged(held, path, worth)) for worth in made}
        self.assertEqual(found, {True, False})

    def test_texts_of_parts(self):
        """What fits no world is read up to its end; what no text of a tuple begins with, as far as one does."""
        random = random_of("texts of a small state")
        paths = leaf_paths(HELD)
        found = set()
        for _ in range(150 * MANY):
            value = exchanged(HELD, random.choice(paths), random.choice(PARTS))
            text = as_text(value)
            # What is no text is not handed in.
            if not is_text(text):
                continue
            found.add(slow_fits(None, value))
            if slow_fits(None, value):
                self.assertEqual(repr(held_of(CODE, text)), repr(value))
            else:
                wanted = len(text) if slow_read(text) is not None else slow_index(text)
                self.raises_with(InvalidText, "index", wanted, held_of, CODE, text)
        self.assertEqual(found, {True, False})

    def test_parts_of_the_code(self):
        random = random_of("parts of a small code")
        rows = [part_at(CODE, path) for path in leaf_paths(CODE) if len(path) == 4]
        worths = rows + [None, (), "", "a", "x", 0, 1, 2, 6, True, V, A, "f", "g", ("value",), ("global", "b"),
                         ("local", 0), ("unset",), ("turn", 2), ("copy",), ("name", "x"), ("jump_if", True, 0),
                         ["drop"]]
        found = {"none": 0, "unsound": 0, "sound": 0}
        for path in leaf_paths(CODE)[1:]:
            for worth in random.sample(worths, 8):
                found[self.check_code(exchanged(CODE, path, worth))] += 1
        self.assertGreater(min(found.values()), 20, found)

    def check_code(self, value):
        """Checks what all functions answer of a value as a code."""
        error = None
        if not is_code(value):
            error = InvalidCode
        elif not slowfaults.is_sound(value):
            error = UnsoundCode
            self.assertTrue(slowfaults.is_fault(value, *code_fault(value)))
            self.assertIs(is_code_fault(value, code_fault(value)), True)
        if error is None:
            known = soundness.shapes(value)
            self.assertEqual(shapes(value), [[one.get(at) for at in range(len(body[2]))]
                                             for one, body in zip(known, value[3])])
            self.assertEqual(held_of(value, held_text(value, begun(value))), begun(value))
            self.assertEqual(fits(value, WORLD, HELD), slowholding.fits(value, WORLD, HELD))
            return "sound"
        for action, more in [(shapes, ()), (begun, ()), (told, (HELD,)), (fits, (WORLD, HELD)),
                (end_of, (WORLD, HELD)), (step, (WORLD, HELD)), (go, (WORLD, HELD, 1)), (held_text, (HELD,)),
                (held_of, (TEXT,))]:
            self.raises(error, action, value, *more)
        return "none" if error is InvalidCode else "unsound"

    def test_parts_of_the_world(self):
        random = random_of("parts of a small world")
        reading = exchanged(exchanged(HELD, (5, 6), (1, 2, (("<", "q", 3),))), (5, 0), "main")
        self.assertIs(fits(CODE, WORLD, reading), True)
        for path in leaf_paths(WORLD):
            for worth in random.sample(VALUES, 8) + ["m", "|", False, "abc", "a\rb", ("m", "", True)]:
                world = exchanged(WORLD, path, worth)
                if is_world(world):
                    self.assertIs(fits(CODE, world, reading), slowholding.fits(CODE, world, reading), world)
                else:
                    for action, more in [(fits, ()), (end_of, ()), (step, ()), (go, (1,))]:
                        self.raises(InvalidWorld, action, CODE, world, None, *more)


class TestErrors(Case):

    def test_sequence(self):
        """The first wrong argument tells; a code that is not sound is told ahead of a wrong world."""
        for action, wrong in [(fits, [InvalidWorld]), (end_of, [InvalidWorld, InvalidHeld]),
                (step, [InvalidWorld, InvalidHeld]), (go, [InvalidWorld, InvalidHeld, InvalidCount]),
                (told, [InvalidHeld]), (held_text, [InvalidHeld])]:
            right = {InvalidWorld: WORLD, InvalidHeld: HELD, InvalidCount: 1}
            for at, error in enumerate(wrong):
                values = [right[one] for one in wrong[:at]] + [None] * (len(wrong) - at)
                if action is fits:
                    values.append(None)
                self.raises(error, action, CODE, *values)
                self.raises(UnsoundCode, action, UNSOUND, *values)
                self.raises(InvalidCode, action, None, *values)
        for action, more in [(shapes, ()), (begun, ()), (held_of, ("x",))]:
            self.raises(InvalidCode, action, UNSOUND[:3], *more)
            self.raises(UnsoundCode, action, UNSOUND, *more)


def as_text(thing):
    """The text of a thing, whatever signs the texts in it have."""
    if type(thing) is tuple:
        return "(" + ",".join(as_text(part) for part in thing) + ")"
    if type(thing) is str:
        for sign, written in [("\\", "\\\\"), ("\"", "\\\""), ("\n", "\\n"), ("\t", "\\t")]:
            thing = thing.replace(sign, written)
        return "\"" + thing + "\""
    return {True: "T", False: "F", None: "N"}[thing] if thing is None or type(thing) is bool else str(thing)


if __name__ == "__main__":
    unittest.main()
