"""[14]: the faults of a program."""

import unittest

from patterndeeds.errors import InvalidProgram
from patterndeeds.names import faults
from patterndeeds.parser import program_of
from helper import MANY, VALUES, Case, random_of
from making import Faultless, Trees
from oracle import SPECIALS, faults_of


def faults_in(source):
    return faults(program_of(source))


class TestFaults(Case):

    def test_examples(self):
        self.assertEqual(faults_in("function f(a) { a[1] = 2 } { f(x); x = 3 }"), [])
        self.assertEqual(faults_in("{ next; f(1) } END { next }"), [(3, "unknown", "f"), (5, "next", "next")])

    def test_none(self):
        for source in ["", "x", "{ x = NR; f() } function f(a, b) { f(a); a[1] = b; return }",
                "{ while (x) { if (y) break; else continue }; next }", "x { next } y, z { next }",
                       "{ for (k in a) for (;;) { do { break } while (1); continue } }",
                       "{ length; length(x); length(x y); index(a, b); match(a, b); substr(a, b); substr(a, b, c) }",
                       "{ split(a, b); split(a, b, c); sub(a, b); gsub(a, b); sub(a, b, c); gsub(a, b, c[1]); "
                       "sub(a, b, $1) }", "{ tolower(a); toupper(a); int(a); close(a); sprintf(a); "
                                          "sprintf(a, b, c, d); sprintf(1, 2, 3); substr(1, 2, 3); split(1, b, 3) }",
                       "function f(x) { x } function g(x) { x } { x = f(g(1)) }", "{ f() } function f(a, b, c) { }",
                       "{ NR = FNR = FS; for (NF in a) ; split(x, RS) }",
                       "function f(a) { if (a) return a; f(a - 1) }"]:
            self.assertEqual(faults_in(source), [], source)

    def test_twice(self):
        self.assertEqual(faults_in("function f() { } function f(a) { }"), [(0, "twice", "f")])
        self.assertEqual(faults_in("function g() { } function f() { } function f() { } function f() { } function g() "
                                   "{ }"), [(0, "twice", "f"), (0, "twice", "g")])

    def test_head(self):
        for name in SPECIALS:
            self.assertEqual(faults_in("function %s() { }" % name), [(0, "head", name)])
            self.assertEqual(faults_in("function f(a, %s) { }" % name), [(0, "head", name)])
        self.assertEqual(faults_in("function f(a, g) { } function g() { }"), [(0, "head", "g")])
        self.assertEqual(faults_in("function f(f) { }"), [(0, "head", "f")])
        self.assertEqual(faults_in("function f(a, b, a) { }"), [(0, "head", "a")])
        self.assertEqual(faults_in("function f(a) { } function g(a) { }"), [])
        self.assertEqual(faults_in("function f(b, a, b, a, a) { } function g(b, b) { }"),
                [(0, "head", "a"), (0, "head", "b")])

    def test_variable(self):
        for source, place in [("f", 1), ("x, f", 1), ("{ x = f }", 2), ("{ f[1] = 2 }", 2), ("{ x; f++ }", 3),
                ("{ x in f }", 2), ("{ delete f }", 2), ("{ delete f[1] }", 2), ("{ for (f in x) ; }", 2),
                ("{ for (x in f) ; }", 2),
                              ("{ for (x in y) f }", 3), ("{ for (; f; ) ; }", 2), ("{ for (f; x; y) ; }", 3),
                              ("{ for (x; y; f) ; }", 4), ("{ for (;;) f }", 3), ("{ if (f) x }", 2),
                              ("{ if (x) f }", 3), ("{ if (x) y; else f }", 4),
                              ("{ while (f) x }", 2), ("{ do x; while (f) }", 2), ("{ do f; while (x) }", 3),
                              ("{ print f }", 2), ("{ print > f }", 2), ("{ printf x | f }", 2),
                              ("{ print x >> $f }", 2), ("{ exit f }", 2), ("{ getline f }", 2),
                              ("{ getline < f }", 2), ("{ f | getline }", 2), ("{ x | getline f }", 2),
                              ("{ split(x, f) }", 2), ("{ length(f) }", 2), ("{ f(f) }", 2), ("{ x[f] }", 2),
                              ("{ sub(x, y, f) }", 2), ("{ $f }", 2), ("{ (x, f) in y }", 2),
                              ("{ x ? y : f }", 2), ("{ if (x) { while (y) { f } } }", 4), ("BEGIN { } f { }", 2)]:
            self.assertEqual(faults_in(source + "; function f(a) { }"), [(place, "variable", "f")], source)
        self.assertEqual(faults_in("function f(f) { f }"), [(0, "head", "f"), (1, "variable", "f")])
        self.assertEqual(faults_in("{ f } function g(f) { f[1] } function f() { }"),
                [(0, "head", "f"), (2, "variable", "f"), (3, "variable", "f")])

    def test_unknown_and_many(self):
        for source, place in [("f()", 1), ("x, f(1)", 1), ("{ x = f(1) }", 2), ("{ for (f(1); ; ) ; }", 3),
                ("{ for (; f(1); ) ; }", 2), ("{ for (; ; f(1)) ; }", 3), ("{ print > f(1) }", 2), ("{ x[f(1)] }", 2),
                ("{ delete x[f(1)] }", 2),
                              ("{ f(1) | getline }", 2), ("{ while (x) if (y) f(1) }", 4),
                              ("function g(a) { f(1) }", 1), ("function g(a) { if (a) f(1) }", 2)]:
            self.assertEqual(faults_in(source), [(place, "unknown", "f")], source)
            more = source.replace("f(1)", "f(1, 2)").replace("f()", "f(1, 2)")
            self.assertEqual(faults_in(more + "; function f(a) { }"), [(place, "many", "f")])
            self.assertEqual(faults_in(source + "; function f(a) { }"), [])
        self.assertEqual(faults_in("{ f(1) } function f() { } function f(a) { }"),
                [(0, "twice", "f"), (2, "many", "f")])
        self.assertEqual(faults_in("{ f(1) } function f(a) { } function f() { }"), [(0, "twice", "f")])
        self.assertEqual(faults_in("{ f(g(1), 2); f(g(1)) }"), [(2, "unknown", "f"), (2, "unknown", "g"),
                (3, "unknown", "f"), (3, "unknown", "g")])

    def test_built(self):
        for word, good in [("length", [0, 1]), ("index", [2]), ("match", [2]), ("substr", [2, 3]), ("split", [2, 3]),
                ("sub", [2, 3]), ("gsub", [2, 3]), ("tolower", [1]), ("toupper", [1]), ("int", [1]), ("close", [1]),
                ("sprintf", range(1, 6))]:
            for many in range(6):
                source = "{ x; %s(%s) }" % (word, ", ".join(["a", "b", "c", "d", "e"][:many]))
                self.assertEqual(faults_in(source), [] if many in good else [(3, "built", word)], source)
        for part in ["b[1]", "$b", "1", "\"b\"", "b c", "/b/", "-b", "f(b)", "b = c", "b++"]:
            more = "; function f(a) { }"
            self.assertEqual(faults_in("{ split(a, %s) }%s" % (part, more)), [(2, "built", "split")])
            self.assertEqual(faults_in("{ split(a, %s, c) }%s" % (part, more)), [(2, "built", "split")])
            for word in ["sub", "gsub"]:
                target = part in ["b[1]", "$b"]
                self.assertEqual(faults_in("{ %s(a, c, %s) }%s" % (word, part, more)),
                        [] if target else [(2, "built", word)])
                self.assertEqual(faults_in("{ %s(%s, %s) }%s" % (word, part, part, more)), [])
        self.assertEqual(faults_in("{ split(a, (b)) }"), [])
        self.assertEqual(faults_in("{ close() close(); int() } int()"),
                [(2, "built", "close"), (3, "built", "int"), (4, "built", "int")])

    def test_loop(self):
        for word in ["break", "continue"]:
            for source, place in [("{ %s }", 2), ("{ if (x) %s }", 3), ("{ while (x) ; %s }", 3),
                    ("{ do ; while (x); %s }", 3), ("{ for (;;) ; %s }", 3), ("{ for (x in y) ; %s }", 3),
                    ("function f() { %s }", 1), ("BEGIN { x; %s }", 3),
                                  ("{ if (x) ; else { y; %s } }", 4)]:
                self.assertEqual(faults_in(source.replace("%s", word)), [(place, "loop", word)])
            for source in ["{ while (x) %s }", "{ do %s; while (x) }", "{ for (;;) %s }", "{ for (x in y) %s }",
                    "{ while (x) if (y) { %s } }", "function f() { while (1) { if (2) ; else %s } }",
                    "END { do { while (x) ; %s } while (y) }"]:
                self.assertEqual(faults_in(source.replace("%s", word)), [])
        self.assertEqual(faults_in("{ while (x) f() } function f() { break }"), [(4, "loop", "break")])

    def test_return_and_next(self):
        for source, place in [("{ return }", 2), ("BEGIN { return x }", 2), ("x { if (y) return }", 3),
                ("END { while (x) return }", 3), ("x, y { return }", 2)]:
            self.assertEqual(faults_in(source), [(place, "return", "return")])
        for source, place in [("BEGIN { next }", 2), ("END { next }", 2), ("function f() { next }", 1),
                ("END { if (x) next }", 3), ("function f() { while (x) { next } }", 2)]:
            self.assertEqual(faults_in(source), [(place, "next", "next")])
        for source in ["{ next }", "x { next }", "x, y { while (z) next }", "function f() { return; return 1 }"]:
            self.assertEqual(faults_in(source), [])

    def test_several_at_once(self):
        source = ("function f(NR, f, a, a) { f[1]; next; break; f(1, 2, 3, 4, 5); g(); sub() } "
                  "function f() { } END { next; return; continue; f = f }")
        self.assertEqual(faults_in(source), [
            (0, "head", "NR"), (0, "head", "a"), (0, "head", "f"), (0, "twice", "f"), (2, "next", "next"),
            (3, "return", "return"), (4, "loop", "continue"), (5, "variable", "f"), (6, "variable", "f"),
            (7, "next", "next"), (8, "loop", "break"),
            (9, "many", "f"), (10, "unknown", "g"), (11, "built", "sub")])

    def test_places_are_of_the_innermost(self):
        self.assertEqual(faults_in("f(), g() { x; if (f()) { y; while (g()) f() } }"), [
            (1, "unknown", "f"), (1, "unknown", "g"), (3, "unknown", "f"), (5, "unknown", "g"), (6, "unknown", "f")])

    def test_random_programs(self):
        rnd = random_of("faults")
        with_faults = Trees(rnd, ["x", "f", "g", "NR", "n"], ["f", "g", "h"])
        without = Faultless(rnd)
        for _ in range(300 * MANY):
            program = with_faults.program(rnd.randrange(3, 6))
            self.assertEqual(faults(program), faults_of(program))
            program = without.program(5)
            self.assertEqual(faults(program), [])
            self.assertEqual(faults_of(program), [])

    def test_errors(self):
        for value in VALUES:
            if type(value) is not tuple or value != ((), ()):
                self.raises(InvalidProgram, faults, value)
        self.assertEqual(faults(program=((), ())), [])
        program = program_of("{ break }")
        faults(program).append(1)
        self.assertEqual(faults(program), [(2, "loop", "break")])


if __name__ == "__main__":
    unittest.main()
