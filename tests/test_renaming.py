"""[19], [20] and the facts N6, N7: other names."""

import unittest

from patterndeeds.errors import (
    InvalidFunction, InvalidNames, InvalidProgram, NotFitting, UnknownFunction, UnsoundProgram,
)
from patterndeeds.kinds import is_sound, slot_kinds
from patterndeeds.parser import program_of
from patterndeeds.printer import program_text
from patterndeeds.renaming import likeness, plain, renamed, renamed_head
from helper import MANY, VALUES, Case, Row, Rows, Text, random_of
from making import Faultless
from oracle import SPECIALS, plain_of, stands, with_words

SOURCE = ("function f(a, b) { x = a; return g(b, y) } function g(c) { c[x]; delete z[c[1]] } "
          "{ f(1, y); for (k in y) x in z }")


class TestRenamed(Case):

    def test_each_kind_of_name(self):
        for old, new, source in [
                ("f", "h", SOURCE.replace("f(", "h(")), ("a", "q", SOURCE.replace("(a,", "(q,").replace("= a;",
                "= q;")), ("y", "q", SOURCE.replace("y", "q")), ("k", "q", SOURCE.replace("(k ", "(q ")),
                ("z", "q", SOURCE.replace("z", "q")), ("x", "q", SOURCE.replace("x", "q"))]:
            program = program_of(SOURCE.replace("g(b, y)", "g(b)"))
            self.assertEqual(renamed(program, [(old, new)]), program_of(source.replace("g(b, y)",
                    "g(b)").replace("g(b, q)", "g(b)")))
            self.assertEqual(renamed(program=program, pairs=[(old, new)]), renamed(program, [(old, new)]))

    def test_each_tree(self):
        source = ("x[1, y] = $x += ++y ? x || y : y && x; (x, y) in x; x ~ y < x y + x; !x -y; f(x, y); split(x, y); "
                  "getline x < y; x | getline y; print x, y > x; printf y | y; if (x) y; else x; while (x) y\n do x; "
                  "while (y); "
                  "for (x; y; x) y; for (x in y) x; exit x; delete x; delete x[y]")
        program = program_of("{" + source + "} x; y, x { y } function f(x, y) { return x }")
        want = program_of("{" + source.replace("x", "\t").replace("y", "x").replace("\t", "y").replace("eyit",
                "exit") + "} y; x, y { x } function f(y, x) { return y }")
        self.assertEqual(renamed(program, [("x", "y"), ("y", "x")]), want)

    def test_pairs_that_fit(self):
        program = program_of("{ x = y; f(z) } function f(p) { p }")
        for pairs, source in [
                ([], "{ x = y; f(z) } function f(p) { p }"), ([("x", "x")], "{ x = y; f(z) } function f(p) { p }"),
                ([("x", "y"), ("y", "x")], "{ y = x; f(z) } function f(p) { p }"),
                ([("x", "y"), ("y", "z"), ("z", "x")], "{ y = z; f(x) } function f(p) { p }"),
                ([("f", "x"), ("x", "f")], "{ f = y; x(z) } function x(p) { p }"),
                ([("p", "f"), ("f", "p")], "{ x = y; p(z) } function p(f) { f }"),
                ([("x", "new"), ("y", "x")], "{ new = x; f(z) } function f(p) { p }"),
                ([("p", "v1"), ("z", "p1"), ("x", "f1")], "{ f1 = y; f(p1) } function f(v1) { v1 }")]:
            self.assertEqual(renamed(program, pairs), program_of(source), pairs)

    def test_pairs_that_do_not_fit(self):
        program = program_of("{ x = y; f(z) } function f(p) { p }")
        for pairs in [[("q", "r")], [("x", "y")], [("x", "f")], [("x", "p")], [("f", "z")], [("p", "x")],
                [("x", "q"), ("y", "q")], [("x", "y"), ("y", "z")], [("x", "q"), ("w", "v")], [("q", "q")],
                [("x", "y"), ("y", "y")]]:
            self.raises(NotFitting, renamed, program, pairs)
        self.raises(NotFitting, renamed, ((), ()), [("x", "y")])

    def test_what_is_no_pairs(self):
        program = program_of("{ x = y }")
        bad = [(), (("x", "z"),), None, "xz", [("x",)], [("x", "z", "w")], [["x", "z"]], ["xz"], [("x", "in")],
                [("in", "x")], [("x", "length")], [("x", "")], [("x", None)], [(1, "x")], [("x", "z"), ("x", "w")],
                [("x", "z"), ("x", "z")], Rows([("x", "z")]),
               [Row(("x", "z"))], [(Text("x"), "z")], [("x", Text("z"))], [("x", "1")], [("x", "a b")], [("x", ["z"])],
               [None], [("x", "z"), None], {"x": "z"}]
        bad += [[("x", name)] for name in SPECIALS] + [[(name, "x")] for name in SPECIALS]
        for value in bad + [value for value in VALUES if type(value) is not list or value != []]:
            if type(value) is list and value in ([("name", "x")], [("", "x")]) and value[0][0] == "name":
                continue
            self.raises(InvalidNames, renamed, program, value)
            self.raises(InvalidNames, renamed, program_of("{ break }"), value)
            self.raises(InvalidProgram, renamed, None, value)
        self.raises(UnsoundProgram, renamed, program_of("{ break }"), [("q", "r")])

    def test_against_the_words(self):
        rnd = random_of("renamed")
        maker = Faultless(rnd)
        fitting = 0
        for _ in range(300 * MANY):
            program = maker.program(rnd.randrange(3, 6))
            names = [name for name in stands(program) if name not in SPECIALS]
            olds = rnd.sample(names, rnd.randrange(len(names) + 1))
            pool = olds + ["new%d" % at for at in range(3)] + (names if rnd.random() < 0.3 else [])
            pairs = [(old, rnd.choice(pool)) for old in olds]
            if rnd.random() < 0.6:
                pairs = list(zip(olds, rnd.sample(olds, len(olds))))
            table = dict(pairs)
            if len({table.get(name, name) for name in names}) < len(names):
                self.raises(NotFitting, renamed, program, pairs)
                continue
            fitting += 1
            given = list(pairs)
            other = renamed(program, pairs)
            self.assertEqual(pairs, given)
            self.assertEqual(other, with_words(program, lambda name, around: table.get(name, name)))
            self.assertEqual(renamed(other, [(new, old) for old, new in pairs]), program)
            self.assertEqual(plain(other), plain(program))
            if is_sound(program):
                many = len(slot_kinds(program)) - len(SPECIALS) + len(program[1])
                self.assertEqual(len(likeness(program, other)), many)
        self.assertGreater(fitting, 100)


class TestRenamedHead(Case):

    def test_other_names(self):
        program = program_of("function f(a, b) { x = a b; g(a) } function g(a) { a } { f(1, 2); a = 1 }")
        self.assertEqual(renamed_head(program, "f", ("p", "q")),
                program_of("function f(p, q) { x = p q; g(p) } function g(a) { a } { f(1, 2); a = 1 }"))
        self.assertEqual(renamed_head(program, "f", ("b", "a")),
                program_of("function f(b, a) { x = b a; g(b) } function g(a) { a } { f(1, 2); a = 1 }"))
        self.assertEqual(renamed_head(program, "f", ("a", "b")), program)
        self.assertEqual(renamed_head(program, "f", ("b", "c")),
                program_of("function f(b, c) { x = b c; g(b) } function g(a) { a } { f(1, 2); a = 1 }"))
        self.assertEqual(renamed_head(program, "g", ("x",)),
                program_of("function f(a, b) { x = a b; g(a) } function g(x) { x } { f(1, 2); a = 1 }"))
        self.assertEqual(renamed_head(program=program, function="g", names=("b",)),
                program_of("function f(a, b) { x = a b; g(a) } function g(b) { b } { f(1, 2); a = 1 }"))
        self.assertEqual(renamed_head(program_of("function f() { x }"), "f", ()), program_of("function f() { x }"))

    def test_arrays_and_walks(self):
        program = program_of("function f(a, k) { for (k in a) delete a[k]; split(k, a); k in a; a[1]++; "
                             "getline k < a[1] }")
        self.assertEqual(renamed_head(program, "f", ("k", "z")),
                program_of("function f(k, z) { for (z in k) delete k[z]; split(z, k); z in k; k[1]++; "
                           "getline z < k[1] }"))

    def test_names_that_do_not_fit(self):
        program = program_of("function f(a, b) { x = a; y[1]; for (z in w) g() } function g() { v } { u }")
        for names in [(), ("p",), ("p", "q", "r"), ("p", "p"), ("a", "a"), ("NR", "q"), ("p", "SUBSEP"), ("f", "q"),
                ("p", "g"), ("x", "q"), ("p", "y"), ("z", "q"), ("p", "w"), ("b", "x")]:
            self.raises(NotFitting, renamed_head, program, "f", names)
        for names in [("v", "u"), ("p", "a"), ("b", "q")]:
            self.assertEqual(renamed_head(program, "f", names)[1][0][1], names)
        self.raises(NotFitting, renamed_head, program, "g", ("p",))

    def test_errors(self):
        program = program_of("function f(a, b) { x = a } { y }")
        bad = program_of("function f(a, b) { next }")
        for value in VALUES + [["p", "q"], ("p", "in"), ("p", 1), Row(("p", "q")), ("p", Text("q")), "pq", ("p", "1"),
                ("p", "")]:
            if not (type(value) is tuple and value in ((), ("x",), ("name",), ("name", "x", "y"), ("name", "x"))):
                self.raises(InvalidNames, renamed_head, program, "f", value)
                self.raises(InvalidNames, renamed_head, bad, "g", value)
                self.raises(InvalidFunction, renamed_head, bad, "1", value)
                self.raises(InvalidProgram, renamed_head, None, "1", value)
        for value in VALUES + ["in", "int", "", Text("f")]:
            if type(value) is not str or value != "x":
                self.raises(InvalidFunction, renamed_head, program, value, ("p", "q"))
        self.raises(UnsoundProgram, renamed_head, bad, "g", ())
        self.raises(UnknownFunction, renamed_head, program, "g", ("p", "p"))
        self.raises(UnknownFunction, renamed_head, program, "y", ())
        self.raises(NotFitting, renamed_head, program, "f", ("NR", "FS"))

    def test_against_the_words(self):
        rnd = random_of("heads")
        maker = Faultless(rnd)
        fitting = 0
        for _ in range(300 * MANY):
            program = maker.program(5)
            for name, params, body in program[1]:
                pool = maker.names + ["a", "b", "c"]
                names = tuple(rnd.choice(pool) for _ in params)
                inside = set(stands(((), ((name, params, body),)))) - {name} if name not in str(body) else None
                others = [function[0] for function in program[1]]
                if len(set(names)) < len(names) or any(one in SPECIALS or one in others for one in names):
                    self.raises(NotFitting, renamed_head, program, name, names)
                elif inside is not None and any(one in inside and one not in params for one in names):
                    self.raises(NotFitting, renamed_head, program, name, names)
                elif inside is not None:
                    fitting += len(names)
                    alone = with_words(((), ((name, params, body),)), lambda one,
                            around: dict(zip(params, names)).get(one, one))
                    self.assertEqual(renamed_head(program, name, names),
                            (program[0], tuple(alone[1][0] if one[0] == name else one for one in program[1])))
                    self.assertEqual(plain(renamed_head(program, name, names)), plain(program))
        self.assertGreater(fitting, 30)


class TestPlain(Case):

    def test_sequence(self):
        program = program_of("function late(one, two) { three = one; four[two] } BEGIN { five = six + NR; "
                             "late(seven[eight]) } function early(one) { five; one; nine } { for (ten in eleven) "
                             "twelve; five }")
        self.assertEqual(program_text(plain(program)),
                "BEGIN {\n  v1 = v2 + NR\n  f1(v3[v4])\n}\n{\n  for (v5 in v6) "
                "{\n    v7\n  }\n  v1\n}\nfunction f1(p1, p2) {\n  v8 = p1\n  v9[p2]\n}\nfunction f2(p1) "
                "{\n  v1\n  p1\n  v10\n}\n")

    def test_sequence_in_each_tree(self):
        for source, want in [("a[b, c]", "v1[v2, v3]"), ("a in b", "v1 in v2"), ("(a, b) in c", "(v1, v2) in v3"),
                ("getline a < b", "getline v1 < v2"), ("a | getline b", "v1 | getline v2"),
                ("getline a", "getline v1"), ("getline a[b] < c", "getline v1[v2] < v3"),
                             ("a ? b : c", "v1 ? v2 : v3"), ("a = b", "v1 = v2"), ("a += b", "v1 += v2"),
                             ("$a b", "$v1 v2"), ("substr(a, b)", "substr(v1, v2)"), ("NR a FS", "NR v1 FS"),
                             ("b a b", "v1 v2 v1"), ("x, y", "v1, v2"), ("a getline_", "v1 v2"),
                             ("(getline a < b) < c", "(getline v1 < v2) < v3"),
                             ("a[getline b < c]", "v1[getline v2 < v3]")]:
            self.assertEqual(plain(program_of(source)), program_of(want), source)
        for source, want in [("for (a; b; c) d", "for (v1; v2; v3) v4"), ("for (a in b) c", "for (v1 in v2) v3"),
                ("do a; while (b)", "do v1; while (v2)"), ("if (a) b; else c", "if (v1) v2; else v3"),
                ("delete a[b]", "delete v1[v2]"), ("print b, a > c", "print v1, v2 > v3"),
                             ("while (b) a", "while (v1) v2"), ("exit a", "exit v1"),
                             ("printf a | b", "printf v1 | v2")]:
            self.assertEqual(plain(program_of("{" + source + "}")), program_of("{" + want + "}"), source)

    def test_names_that_stand_already(self):
        program = program_of("function f2(v1, p2, f1) { v2 = v1; return f3(p2) f1 } function f3(p1) { v1 = p1; p2 } { "
                             "p1 = v2; f2(v3) }")
        self.assertEqual(plain(program),
                program_of("function f1(p1, p2, p3) { v2 = p1; return f2(p2) p3 } function f2(p1) { v4 = p1; v5 } { "
                           "v1 = v2; f1(v3) }"))
        self.assertEqual(plain(plain(program)), plain(program))

    def test_parameters_elsewhere(self):
        self.assertEqual(plain(program_of("function f(x) { x; y } function g(y) { x; y }")),
                program_of("function f1(p1) { p1; v1 } function f2(p1) { v2; p1 }"))

    def test_n6(self):
        rnd = random_of("plain")
        maker = Faultless(rnd)
        for _ in range(300 * MANY):
            program = maker.program(rnd.randrange(3, 6))
            found = plain(program)
            self.assertEqual(found, plain_of(program))
            self.assertEqual(plain(found), found)
            self.assertEqual(plain(program=found), found)

    def test_errors(self):
        for value in VALUES:
            if type(value) is not tuple or value != ((), ()):
                self.raises(InvalidProgram, plain, value)
        self.raises(UnsoundProgram, plain, program_of("{ f() }"))
        self.assertEqual(plain(((), ())), ((), ()))
        # A clash chain is no error here.
        self.assertEqual(plain(program_of("{ x[1]; x }")), program_of("{ v1[1]; v1 }"))


class TestLikeness(Case):

    def test_alike(self):
        first = program_of("function f(a) { a[x] = NR } { f(y); z }")
        second = program_of("function g(y) { y[a] = NR } { g(x); f }")
        self.assertEqual(likeness(first, second), [(("", "f"), ("", "g")), (("", "x"), ("", "a")),
                (("", "y"), ("", "x")), (("", "z"), ("", "f")), (("f", "a"), ("g", "y"))])
        self.assertEqual(likeness(program=second, other_program=first),
                [(("", "a"), ("", "x")), (("", "f"), ("", "z")), (("", "g"), ("", "f")), (("", "x"), ("", "y")),
                (("g", "y"), ("f", "a"))])
        self.assertEqual(likeness(((), ()), ((), ())), [])
        self.assertEqual(likeness(program_of("NR"), program_of("NR")), [])
        self.assertEqual(likeness(program_of("function f(a, b) { }"), program_of("function g(b, a) { }")),
                [(("", "f"), ("", "g")), (("f", "a"), ("g", "b")), (("f", "b"), ("g", "a"))])

    def test_unlike(self):
        base = "function f(a) { a[x] = NR } { f(y); z = 1 \"t\" x }"
        for old, new in [("NR", "NF"), ("NR", "w"), ("1", "2"), ("\"t\"", "\"u\""), ("f(y)", "f(x)"), (" x }", " y }"),
                ("z =", "z +="), ("{ f", "x { f"), ("(a)", "(a, b)"), ("a[x]", "x[a]"), (" x }", " x } { }"),
                ("{ f", "BEGIN { f"), ("a[x]", "y[x]")]:
            self.assertIn(old, base)
            self.assertIsNone(likeness(program_of(base), program_of(base.replace(old, new))), (old, new))
        self.assertIsNone(likeness(program_of("x y"), program_of("x x")))
        self.assertIsNone(likeness(program_of("x x"), program_of("x y")))
        self.assertIsNone(likeness(program_of("function f() { } function g() { x }"),
                program_of("function g() { x } function f() { }")))

    def test_random_programs(self):
        rnd = random_of("likeness")
        maker = Faultless(rnd)
        for _ in range(200 * MANY):
            program = maker.program(rnd.randrange(3, 5))
            names = [name for name in stands(program) if name not in SPECIALS]
            pairs = list(zip(names, rnd.sample(names + ["q", "r"], len(names))))
            other = renamed(program, pairs)
            table = dict(pairs)
            rows = likeness(program, other)
            self.assertEqual(rows, sorted(rows))
            self.assertEqual(likeness(other, program), sorted((second, first) for first, second in rows))
            for first, second in rows:
                self.assertEqual(second, (table.get(first[0], ""), table[first[1]]))
            self.assertEqual(sorted({name for one, _ in rows for name in one if name}), names)
            third = maker.program(3)
            self.assertEqual(likeness(program, third) is None, plain(program) != plain(third))

    def test_errors(self):
        bad, good = program_of("{ break }"), program_of("{ x[1]; x }")
        for value in VALUES:
            if type(value) is not tuple or value != ((), ()):
                for other in [value, bad, good]:
                    self.raises(InvalidProgram, likeness, value, other)
                    self.raises(InvalidProgram, likeness, other, value)
        for first, second in [(bad, good), (good, bad), (bad, bad)]:
            self.raises(UnsoundProgram, likeness, first, second)
        self.assertEqual(likeness(good, good), [(("", "x"), ("", "x"))])


if __name__ == "__main__":
    unittest.main()
