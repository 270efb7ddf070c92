"""[63], [64]: on which roots spots and the course hang."""

import unittest

import soundness
from makingcodes import ARRAYS, END, SCALARS, Codes
from makingruns import Runs
from patterndeeds.codes import code_of
from patterndeeds.errors import InvalidCode, InvalidRoot, InvalidSpot, UnsoundCode
from patterndeeds.hanging import course_hangs, hangs, is_root_chain, root_chain
from patterndeeds.knowing import spots
from patterndeeds.machine import begun, step
from patterndeeds.parser import program_of
from slowknowing import Flow
from helper import MANY, VALUES, Case, Number, Row, Rows, Text, random_of
from test_knowing import F, held_spots, num, txt

A, B = ("global", "a"), ("global", "b")
UNSET = ("constant", ("unset",))
TAIL = (END, ("halt",))
X, DROP = ("set_name", "x"), ("drop",)
READ = [txt("p"), ("read", "<", "value"), DROP]
ROOT = ("<", "p")
KEPT = READ + [("set_name", "y"), DROP]


def code_with(rows, *functions):
    return (SCALARS, ARRAYS, 1, (("", (), tuple(rows) + TAIL),) + (functions or (F,)))


class TestFeeds(Case):

    def check(self, rows, spot, wanted=True, root=ROOT, functions=()):
        """Checks whether a root is fed to a spot, and that both ways to tell it agree."""
        code = code_with(rows, *functions)
        chain = root_chain(code, root, spot)
        self.assertIs(chain is not None, wanted, (rows, spot))
        if chain is not None:
            self.assertIs(is_root_chain(code, root, spot, chain), True)
            self.assertIn(root, hangs(code, spot))
        else:
            self.assertEqual(root in hangs(code, spot), root in course_hangs(code))

    def test_each_feed(self):
        """What was read from an aside, kept in y, comes to a spot by each feed."""
        y = ("name", "y")
        for rows, spot in [
                ([y, X, DROP], ("scalar", "x")), ([y, num(1), ("op", "+"), X, DROP], ("scalar", "x")),
                ([num(1), y, ("compare", "<"), X, DROP], ("scalar", "x")), ([y, ("not",), X, DROP], ("scalar", "x")),
                ([y, ("copy",), X, DROP, DROP], ("scalar", "x")), ([num(1), y, ("turn", 2), X, DROP, DROP], ("scalar",
                "x")),
                ([y, num(1), ("set_element", A), DROP], ("array", "a")), ([num(1), y, ("set_element", A), DROP],
                ("array", "a")),
                ([y, ("element", A), DROP], ("array", "a")), ([y, ("delete", A)], ("array", "a")),
                ([y, ("element", A), DROP, ("size", A), X, DROP], ("scalar", "x")),
                ([y, ("element", A), DROP, num(1), ("is_in", A), X, DROP], ("scalar", "x")),
                ([y, ("element", A), DROP, num(1), ("element", A), X, DROP], ("scalar", "x")),
                ([y, ("set_name", "NF"), DROP], ("scalar", "NF")), ([y, ("set_name", "NF"), DROP], ("record",)),
                ([y, ("set_name", "FS"), DROP], ("record",)), ([y, ("set_name", "OFS"), DROP], ("record",)),
                ([y, ("set_name", "RS"), DROP], ("record",)), ([y, ("set_name", "RS"), DROP], ("scalar", "NR")),
                ([y, ("set_name", "RS"), DROP], ("scalar", "FNR")), ([y, ("set_name", "RS"), DROP], ("scalar", "NF")),
                ([y, ("set_name", "RS"), DROP, ("read", "main", "record"), X, DROP], ("scalar", "x")),
                ([y, num(1), ("set_field",), DROP], ("record",)), ([num(1), y, ("set_field",), DROP], ("record",)),
                ([y, num(1), ("set_field",), DROP, num(2), ("field",), X, DROP], ("scalar", "x")),
                ([y, ("split", A, 1), DROP], ("array", "a")), ([y, ("split", A, 1), X, DROP], ("scalar", "x")),
                ([txt("q"), y, ("split", A, 2), DROP], ("array", "a")),
                ([y, ("set_name", "FS"), DROP, txt("q"), ("split", A, 1), DROP], ("array", "a")),
                ([y, ("set_name", "FS"), DROP, txt("q"), txt(","), ("split", A, 2), X, DROP], ("scalar", "x")),
                ([y, ("close",), X, DROP], ("scalar", "x")), ([txt("q"), y, ("print", 1, ">"), num(1), ("close",), X,
                DROP],
                 ("scalar", "x")), ([txt("q"), y, ("printf", 1, "|"), num(1), ("close",), X, DROP], ("scalar", "x")),
                ([y, ("read", "|", "value"), DROP, DROP, num(1), ("close",), X, DROP], ("scalar", "x")),
                ([y, ("close",), DROP, txt("q"), ("read", "|", "record"), X, DROP], ("scalar", "x")),
                ([y, ("close",), DROP, txt("q"), ("read", "|", "record"), DROP], ("record",)),
                ([y, ("close",), DROP], ("scalar", "NR")),
                ([y, ("set_name", "SUBSEP"), DROP, num(1), num(2), ("key", 2), X, DROP], ("scalar", "x")),
                ([y, txt("q"), ("built", "match", 2), DROP], ("scalar", "RSTART")),
                ([txt("q"), y, ("built", "match", 2), DROP], ("scalar", "RLENGTH")),
                ([y, txt("q"), txt("r"), ("substitute", True), DROP, X, DROP], ("scalar", "x")),
                ([y, txt("q"), txt("r"), ("substitute", True), X, DROP, DROP], ("scalar", "x")),
                ([y, ("call", "f", 1), X, DROP], ("scalar", "x")), ([y, ("call", "f", 1), DROP], ("local", 1, 0)),
                ([y, ("call", "f", 1), DROP], ("result", 1)),
                ([y, ("element", A), DROP, num(1), ("array", A), ("call", "f", 2), DROP], ("local", 1, 1))]:
            self.check(KEPT + rows, spot)
        for rows, spot in [([y, X, DROP], ("scalar", "SUBSEP")), ([y, DROP, num(1), X, DROP], ("scalar", "x")),
                ([y, ("is_in", A), DROP], ("array", "a")), ([y, ("key", 1), X, DROP], ("array", "a")),
                ([y, ("set_name", "SUBSEP"), DROP, num(2), ("key", 1), X, DROP], ("scalar", "x")),
                ([y, ("set_name", "ORS"), DROP], ("record",)), ([y, ("set_name", "NR"), DROP], ("scalar", "FNR")),
                ([txt("q"), y, ("built", "index", 2), DROP], ("scalar", "RSTART")), ([y, ("print", 1, ""), num(1),
                ("close",), X, DROP],
                 ("scalar", "x")), ([y, ("element", A), DROP, num(1), ("element", B), DROP], ("array", "b")),
                ([y, ("close",), DROP, txt("q"), ("read", "|", "value"), DROP, DROP], ("record",)),
                ([y, ("close",), DROP, ("read", "main", "record"), X, DROP], ("scalar", "x"))]:
            self.check(KEPT + rows, spot, False)

    def test_walks(self):
        rows = KEPT + [("name", "y"), ("element", A), DROP, ("walk", A), ("tick", 0), ("next_key", 14), X, DROP,
                ("jump", 9)]
        self.check(rows, ("scalar", "x"))
        self.assertIn(ROOT, course_hangs(code_with(rows)))
        other = KEPT + [("name", "y"), ("element", A), DROP, ("walk", B), ("tick", 0), ("next_key", 14), X, DROP,
                ("jump", 9)]
        self.check(other, ("scalar", "x"), False)
        self.assertNotIn(ROOT, course_hangs(code_with(other)))

    def test_plants(self):
        """Where reads and fields plant which roots."""
        for rows, spot, roots in [
                (READ + [DROP], ("entry", 0, 2, 0), [ROOT]), (READ + [DROP], ("entry", 0, 2, 1), [ROOT]),
                (READ + [DROP], ("scalar", "NR"), []), (READ + [DROP], ("record",), []),
                ([txt("p"), ("read", "|", "value"), DROP, DROP], ("scalar", "NR"), [("|", "p")]),
                ([txt("p"), ("read", "|", "record"), DROP], ("record",), [("|", "p")]),
                ([txt("p"), ("read", "<", "record"), DROP], ("record",), [("<", "p")]),
                ([txt("p"), ("read", "<", "record"), DROP], ("entry", 0, 2, 0), [("<", "p")]),
                ([txt(""), ("read", "<", "value"), DROP, DROP], ("entry", 0, 2, 0), [("<", "")]),
                ([num(1), ("read", "<", "value"), DROP, DROP], ("entry", 0, 2, 0), [("<", "")]),
                ([("name", "x"), ("read", "|", "value"), DROP, DROP], ("entry", 0, 2, 0), [("|", "")]),
                ([txt("p"), ("jump", 2), ("read", "<", "value"), DROP, DROP], ("entry", 0, 3, 0), [("<", "")]),
                ([txt("q"), ("name", "x"), ("jump_if", True, 5), DROP, txt("p"), ("read", "<", "value"), DROP, DROP],
                 ("entry", 0, 6, 0), [("<", "")]),
                ([num(4), ("name", "x"), ("jump_if", True, 5), DROP, num(3), ("field",), DROP], ("entry", 0, 6, 0),
                 [("field", 0)]),
                ([("read", "main", "value"), DROP, DROP], ("entry", 0, 1, 0), [("field", 0)]),
                ([("read", "main", "record"), DROP], ("entry", 0, 1, 0), []),
                ([num(3), ("field",), DROP], ("entry", 0, 2, 0), [("field", 3)]),
                ([num(0), ("field",), DROP], ("entry", 0, 2, 0), [("field", 0)]),
                ([num(5000), ("field",), DROP], ("entry", 0, 2, 0), [("field", 5000)]),
                ([num(-3), ("field",), DROP], ("entry", 0, 2, 0), [("field", 0)]),
                ([num(3, 2), ("field",), DROP], ("entry", 0, 2, 0), [("field", 0)]),
                ([txt("3"), ("field",), DROP], ("entry", 0, 2, 0), [("field", 0)]),
                ([("name", "NF"), ("field",), DROP], ("entry", 0, 2, 0), [("field", 0)]),
                ([num(3), ("jump", 2), ("field",), DROP], ("entry", 0, 3, 0), [("field", 0)])]:
            self.assertEqual(hangs(code_with(rows), spot), roots, (rows, spot))
            for root in roots:
                self.assertEqual(root_chain(code_with(rows), root, spot), [spot])
        code = code_with([num(1), ("call", "f", 1), DROP], ("f", ("value",), (("read", "main", "value"), DROP, DROP,
                txt("p"),
                ("read", "<", "value"), DROP, ("return",))))
        self.assertEqual(hangs(code, ("result", 1)), [("<", "p")])

    def test_fieldwise(self):
        """One row that sets what fields are makes all fields hang on the whole record; of reached live rows alone."""
        field = [num(3), ("field",), DROP]
        for rows, number in [([], 3), ([num(1), num(1), ("set_field",), DROP], 0), ([num(1), ("set_name", "NF"), DROP],
                0),
                ([num(1), ("set_name", "FS"), DROP], 0), ([num(1), ("set_name", "RS"), DROP], 0),
                ([num(1), ("set_name", "OFS"), DROP], 3), ([num(1), ("set_name", "NR"), DROP], 3),
                ([num(1), ("read", "<", "record"), DROP], 0), ([num(1), ("read", "|", "record"), DROP], 0),
                ([num(1), ("read", "<", "value"), DROP, DROP], 3), ([("read", "main", "record"), DROP], 3),
                ([("exit", False), num(1), ("set_name", "FS"), DROP], 3)]:
            roots = hangs(code_with(field + rows), ("entry", 0, 2, 0))
            self.assertIn(("field", number), roots, rows)
            self.assertNotIn(("field", 3 - number), roots, rows)
        setter = ("g", (), (num(1), ("set_name", "FS"), ("return",)))
        self.assertIn(("field", 3), hangs(code_with(field, setter), ("entry", 0, 2, 0)))
        self.assertIn(("field", 0), hangs(code_with(field + [("call", "g", 0), DROP], setter), ("entry", 0, 2, 0)))

    def test_course(self):
        for rows, roots in [
                ([], []), (KEPT, []), (KEPT + [("name", "y"), ("jump_if", True, 8), ("tick", 1), ("tick", 2)], [ROOT]),
                (KEPT + [("name", "y"), ("exit", True)], [ROOT]), (KEPT + [("name", "y"), ("exit", False)], []),
                (KEPT + [("name", "y"), ("element", A), DROP, ("walk", A), DROP], [ROOT]),
                (KEPT + [("name", "y"), ("element", A), DROP, ("walk", B), DROP], []),
                (KEPT + [("name", "y"), ("set_name", "RS"), DROP], []),
                (KEPT + [("name", "y"), ("set_name", "RS"), DROP, ("record", 9)], [ROOT]),
                (KEPT + [("name", "y"), ("set_name", "RS"), DROP, ("read", "main", "value"), DROP, DROP], [ROOT]),
                (KEPT + [("name", "y"), ("set_name", "RS"), DROP, txt("q"), ("read", "<", "value"), DROP, DROP], []),
                (KEPT + [num(2), ("field",), ("jump_if", True, 8), ("tick", 0)], [("field", 2)])]:
            code = code_with(rows)
            self.assertEqual(course_hangs(code), roots, rows)
            for spot in [("scalar", "SUBSEP"), ("array", "b"), ("record",)]:
                self.assertEqual([root for root in roots if root not in hangs(code, spot)], [])
            if roots:
                self.assertIsNone(root_chain(code, roots[0], ("scalar", "SUBSEP")))

    def test_chains(self):
        code = code_with(KEPT + [("name", "y"), X, DROP])
        chain = [("entry", 0, 2, 0), ("entry", 0, 3, 0), ("scalar", "y"), ("entry", 0, 6, 0), ("scalar", "x")]
        spot = ("scalar", "x")
        self.assertEqual(root_chain(code, ROOT, spot), chain)
        for value, wanted in [(chain, True), (chain[1:], False), (chain[:-1], False), (chain[::-1], False),
                (tuple(chain), False),
                ([], False), (Rows(chain), False), ([Row(one) for one in chain], False), (chain + [spot], False),
                (chain[:1] + chain[2:], False), ([("entry", 0, 2, 1)] + chain[1:], False), ([None], False),
                (chain[:1] + [("entry", False, 3, 0)] + chain[2:], False), ([spot], False),
                (chain[:2] + [("scalar", "z")] + chain[3:], False)]:
            self.assertIs(is_root_chain(code, ROOT, spot, value), wanted, value)
        for value in VALUES:
            self.assertIs(is_root_chain(code, ROOT, spot, value), False)
        for root in [("<", "q"), ("|", "p"), ("<", ""), ("field", 0), ("field", 10 ** 80)]:
            self.assertIsNone(root_chain(code, root, spot))
            self.assertIs(is_root_chain(code, root, spot, chain), False)

    def test_errors(self):
        code, bad = code_with(KEPT), code_with([DROP])
        wrong = [(">", "p"), ("<",), ("<", "p", 1), ["<", "p"], ("<", 1), ("<", "\r"), ("field", -1), ("field", True),
                ("field", "1"),
                 ("field",), ("field", Number(1)), (Text("<"), "p"), ("<", Text("p")), Row(ROOT), (None, "p"), ("",
                 "p")]
        for root in wrong + VALUES:
            self.raises(InvalidRoot, root_chain, code, root, None)
            self.raises(InvalidRoot, is_root_chain, code, root, None, None)
        for spot in [("entry", 0, 0, 0), ("scalar", "a"), ("local", 1, 0)] + VALUES:
            self.raises(InvalidSpot, hangs, code, spot)
            self.raises(InvalidSpot, root_chain, code, ROOT, spot)
            self.raises(InvalidSpot, is_root_chain, code, ("field", 0), spot, None)
        for action, more in [(hangs, (None,)), (course_hangs, ()), (root_chain, (None, None)), (is_root_chain,
                (None,) * 3)]:
            self.raises(UnsoundCode, action, bad, *more)
            for value in VALUES[:20]:
                self.raises(InvalidCode, action, value, *more)

    def test_against_slow_ones(self):
        random = random_of("hanging")
        maker, codes = Runs(random), Codes(random)
        for at in range(60 * MANY):
            code = codes.code(random.choice([10, 20, 40])) if at % 2 else code_of(maker.program(random.choice([2, 3,
                    4])))
            flow = Flow(code)
            table = flow.hanging()
            course = set().union(*[table[spot] for spot in flow.course])
            self.assertEqual(course_hangs(code), sorted(course), code)
            roots = sorted({root for root, _ in flow.planted}) + [("<", "nothing")]
            for spot in random.sample(spots(code), min(8, len(table))):
                self.assertEqual(hangs(code, spot), sorted(table[spot] | course), (code, spot))
                for root in random.sample(roots, min(3, len(roots))):
                    chain = root_chain(code, root, spot)
                    self.assertEqual(chain is not None, root in table[spot])
                    if chain is not None:
                        self.assertIn((root, chain[0]), flow.planted)
                        self.assertTrue(all(pair in flow.feeds for pair in zip(chain, chain[1:])))
                        self.assertEqual(chain[-1], spot)
                        self.assertIs(is_root_chain(code, root, spot, chain), True)


SOURCES = ["""{ x = $2; y = $1 x; n[NR] = $3 } END { print y; for (k in n) z = n[k] }""",
           """{ x = $1 + 1; if ($2) y++; print $2, x } END { print NR, NF; print y > "o" }""",
           """BEGIN { while ((getline line < "f") > 0) x = x line; "p" | getline z; y = NR } { print $1; w = z }""",
           """{ "p" | getline; x = $1 } END { print x; y = 7 } """,
           """{ getline v < $1; print v; close($2); x = length(v) } END { z = x 1 }""",
           """{ split($2, a); x = a[1]; y = $1; b[y]++ } END { print x; print length(b) }""",
           """{ if (match($1, "b")) print "yes"; x = RSTART; $0; y = $2 } """,
           """{ sub(/a/, $2, x); y = f(a, $3); print x } function f(q, r) { q[r] = 1; return r }"""]


class TestFacts(Case):

    def compare(self, code, world, other, roots, record):
        """Goes step by step in two worlds, until a run ends with an error; what hangs on no root stays the same."""
        shapes = soundness.shapes(code)
        numbers = {body[0]: at for at, body in enumerate(code[3])}
        flow = Flow(code)
        free = flow.hanging()
        course = set().union(*[free[spot] for spot in flow.course])
        free = {spot: roots_of | course for spot, roots_of in free.items()}
        for spot in list(free)[:2]:
            self.assertEqual(hangs(code, spot), sorted(free[spot]))
        one, two = begun(code), begun(code)
        for _ in range(150):
            row = code[3][one[2][0]][2][one[2][1]]
            body, at = one[2]
            new, event = step(code, world, one)
            new_two, other_event = step(code, other, two)
            if "error" in [(held[0] or ("",))[0] for held in (new, new_two)]:
                return
            self.assertEqual((new == one, new[1:3]), (new_two == two, new_two[1:3]))
            if new == one:
                return
            one, two = new, new_two
            entries = [("entry", body, at, height) for height, word in enumerate(shapes[body][at]) if word == "value"]
            if row[0] in ("print", "printf"):
                feeders = entries + [("scalar", name) for name in ("OFS", "ORS") if row[0] == "print"]
                if not any(free[spot] & roots for spot in feeders):
                    self.assertEqual(event, other_event, (code, world, other))
            found, others = dict_of(held_spots(one, shapes, numbers)), dict_of(held_spots(two, shapes, numbers))
            for spot in set(found) | set(others):
                if not free[spot] & roots:
                    self.assertEqual(found.get(spot), others.get(spot), (code, spot, world, other))
            if record and not free[("record",)] & roots:
                self.assertEqual(one[5][5], two[5][5])

    def codes(self, random, many):
        """Codes of programs, of which some have straight names of asides, and codes of other kinds."""
        maker, codes = Runs(random), Codes(random)
        for source in SOURCES:
            yield code_of(program_of(source)), maker.world()
        for at in range(many):
            code = codes.code(30) if at % 3 == 0 else code_of(maker.program(random.choice([2, 3, 4])))
            yield code, maker.world()

    def test_asides(self):
        """[H1]"""
        random = random_of("asides")
        tried = 0
        for code, world in self.codes(random, 60 * MANY):
            asides = world[1] or (("<", "f", "a b\nc\n", True),)
            asides = tuple(row[:3] + (True,) for row in asides)
            mains = tuple(row[:2] + (True,) for row in world[0]) or (("m", "f g\na b c\n", True),)
            for at, (kind, name, _, _) in enumerate(asides):
                roots = {(kind, name), (kind, "")}
                if roots & set(course_hangs(code)):
                    continue
                tried += 1
                text = "".join(random.choice("ab1 \n") for _ in range(random.randrange(9)))
                other = (mains, asides[:at] + ((kind, name, text, True),) + asides[at + 1:])
                self.compare(code, (mains, asides), other, roots, True)
        self.assertGreater(tried, 40)

    def test_fields(self):
        """[H2]"""
        random = random_of("fields")
        tried = 0
        for code, world in self.codes(random, 90 * MANY):
            if not is_fieldwise(code):
                continue
            asides = tuple(row[:3] + (True,) for row in world[1])
            for number in (1, 2, 3):
                roots = {("field", number), ("field", 0)}
                if roots & set(course_hangs(code)):
                    continue
                tried += 1
                lines = [[random.choice(["a", "b", "12", "f",
                        "xyz"]) for _ in range(random.randrange(5))] for _ in range(3)]
                others = [[random.choice(["b", "7", "cc"]) if at == number - 1 else one for at, one in enumerate(line)]
                          for line in lines]
                one, two = [((("m", "".join(" ".join(line) + "\n" for line in rows), True),),
                        asides) for rows in (lines, others)]
                self.compare(code, one, two, roots, False)
        self.assertGreater(tried, 40)


def dict_of(pairs):
    """For each spot the list of what it holds; a spot of a call stands several times if several calls are open."""
    found = {}
    for spot, one in pairs:
        found.setdefault(spot, []).append(one)
    return found


def is_fieldwise(code):
    """Whether no reached row of a live body changes what the fields of a record are."""
    rows = [row for _, _, row, _, _ in Flow(code).gathered]
    return not any(row[0] == "set_field" or row[0] == "set_name" and row[1] in ("NF", "FS", "RS")
                   or row[0] == "read" and row[1] != "main" and row[2] == "record" for row in rows)


if __name__ == "__main__":
    unittest.main()
