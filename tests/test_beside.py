"""[21]: quiet programs, and two programs in one."""

import unittest

from patterndeeds.beside import beside, is_quiet
from patterndeeds.errors import InvalidProgram, UnsoundProgram
from patterndeeds.names import faults
from patterndeeds.parser import program_of
from patterndeeds.renaming import likeness, renamed
from patterndeeds.trees import is_program, places
from helper import MANY, VALUES, Case, random_of
from making import Faultless
from oracle import SPECIALS, nodes, stands


def quiet(source):
    return is_quiet(program_of(source))


class TestQuiet(Case):

    def test_quiet(self):
        for source in ["", "x", "NR", "{ x = NR; y[1] = $2 }",
                "{ x++; ++y[NF]; z[$1] += $2; for (k in a) delete a[k] }", "{ print $1 > \"f\"; printf FS | \"g\" }",
                "{ sub(a, b, c); gsub(a, b, c[1]); sub(NR, $1, x) }",
                       "function f(a) { return a + NF } { x = f($1) }",
                       "{ index($1, FS); substr(a, b); split($0, a, FS); length($0); sprintf(NR); tolower(a); "
                       "int(NF); toupper($1) }", "BEGIN { x = 1 } END { print x }",
                       "{ x[$1]; $1 ~ FS; if ($1) x = $2; while (NR) break }",
                       "{ exit_ = next_ }", "{ return_ }", "{ f(NR, $1) } function f(a, b) { b = a }", "x[$1]",
                       "{ split(x, a) }"]:
            self.assertIs(quiet(source), True, source)

    def test_each_thing_that_is_not(self):
        for part in ["getline", "getline x", "getline < x", "x | getline", "x | getline y", "match(x, y)", "close(x)",
                "$1 = 2", "$x += 1", "NR = 1", "FS = x", "NF -= 1", "$1++", "--$x", "NR++", "++SUBSEP", "sub(x, y)",
                "gsub(x, y)", "sub(x, y, $1)", "gsub(x, y, NF)",
                     "sub(x, y, $0)"] + [name + " = 1" for name in SPECIALS]:
            for source in ["{ %s }", "{ z[%s] }", "%s", "1, %s", "BEGIN { if (1) %s }", "END { while (%s) ; }",
                    "{ print 1, (%s) }", "{ for (; ; %s) ; }", "{ q = !(%s) }", "function f() { %s }",
                    "function f(a) { if (a) { return %s } } { x }", "{ exit_ > (%s) }",
                           "{ g(1 (%s)) } function g(a) { }", "{ int(%s) }", "{ print > (%s) }"]:
                self.assertIs(quiet(source.replace("%s", part)), False, source + part)
        for source in ["{ next }", "x { if (y) next }", "{ exit }", "{ exit 1 }", "END { exit }",
                "function f() { exit }", "{ for (NR in x) ; }", "function f(a) { for (FS in a) ; }"]:
            self.assertIs(quiet(source), False, source)

    def test_random_programs(self):
        rnd = random_of("quiet")
        maker = Faultless(rnd)
        found = set()
        for _ in range(300 * MANY):
            program = maker.program(rnd.randrange(3, 5))
            loud = any(self.is_loud(node.tree) for node in nodes(program))
            found.add(loud)
            self.assertIs(is_quiet(program), not loud)
            self.assertIs(is_quiet(program=program), not loud)
        self.assertEqual(found, {True, False})

    def is_loud(self, tree):
        tag = tree[0]
        targets = []
        if tag in ("set", "step"):
            targets = [tree[1]]
        elif tag == "change":
            targets = [tree[2]]
        elif tag == "walk":
            targets = [("name", tree[1])]
        elif tag == "built" and tree[1] in ("sub", "gsub"):
            targets = [tree[2][2] if len(tree[2]) == 3 else ("field", ("number", 0, 1))]
        common = any(target[0] == "field" or target[0] == "name" and target[1] in SPECIALS for target in targets)
        return common or tag in ("getline", "next", "exit") or tag == "built" and tree[1] in ("match", "close")


class TestBeside(Case):

    def hold(self, program, other):
        """All that the document says of both programs in one."""
        both, pairs, origins = beside(program, other)
        self.assertTrue(is_program(both))
        shared = sorted(set(stands(program)) & set(stands(other)) - set(SPECIALS))
        self.assertEqual(sorted(old for old, _ in pairs), shared)
        news = [new for _, new in pairs]
        self.assertEqual(len(set(news)), len(news))
        self.assertFalse(set(news) & set(stands(program) + stands(other) + SPECIALS))
        changed = renamed(other, pairs)
        self.assertEqual(both, (program[0] + changed[0], program[1] + changed[1]))
        self.assertEqual(faults(both), [])
        self.assertEqual(origins[0], (0, 0))
        tables = [places(program), places(changed)]
        self.assertEqual([None] + [tables[which][place] for which, place in origins[1:]], places(both))
        self.assertEqual(sorted(origins[1:]), [(which, place) for which in (0, 1) for place in range(1,
                len(tables[which]))])
        self.assertEqual([row for row in origins[1:] if row[0] == 0], [(0, place) for place in range(1,
                len(tables[0]))])
        self.assertEqual([row for row in origins[1:] if row[0] == 1], [(1, place) for place in range(1,
                len(tables[1]))])
        self.assertEqual(beside(program=program, other_program=other), (both, pairs, origins))

    def test_by_hand(self):
        first = program_of("{ x = NR; f(y) } function f(a) { a } BEGIN { z }")
        second = program_of("function g(x) { x; b } { f = y; g(NR) } function y2(f) { f }")
        both, pairs, origins = beside(first, second)
        table = dict(pairs)
        self.assertEqual(sorted(table), ["f", "x", "y"])
        self.assertEqual(both[0][:2], first[0])
        self.assertEqual(origins, [(0, 0), (0, 1), (0, 2), (0, 3), (0, 4), (0, 5), (1, 1), (1, 2), (1, 3), (0, 6),
                (1, 4), (1, 5), (1, 6)])
        self.hold(first, second)
        self.hold(second, first)

    def test_names_that_stand_in_both(self):
        for first, second in [("x", "x"), ("x", "y"), ("x", "function x() { }"), ("function f(x) { x }", "x"),
                ("function f(x) { }", "function f(x) { }"), ("function x(f) { }", "function f(x) { }"),
                ("{ f() } function f() { }", "{ f[1] }"), ("NR FS", "NR FS"),
                              ("v1 v2", "v1 v3"), ("v1", "v1 v2 v3 v5"), ("v2 v3 x", "x v2 v3 v4"), ("", "x"),
                              ("x", ""), ("", ""), ("function f() { x { y } }".replace("x {", "if (x) {"),
                              "{ f = x } function g() { f; y }")]:
            self.hold(program_of(first), program_of(second))

    def test_not_quiet_and_not_sound(self):
        self.hold(program_of("{ next }"), program_of("{ exit; x[1]; x }"))

    def test_random_programs(self):
        rnd = random_of("beside")
        maker = Faultless(rnd)
        for _ in range(150 * MANY):
            first, second = maker.program(rnd.randrange(3, 6)), maker.program(rnd.randrange(3, 6))
            self.hold(first, second)
            both = beside(first, ((), second[1]))[0]
            self.assertIsNotNone(likeness(both, both))

    def test_errors(self):
        bad, good = program_of("{ break }"), program_of("x")
        for value in VALUES:
            if type(value) is not tuple or value != ((), ()):
                self.raises(InvalidProgram, is_quiet, value)
                for other in [value, bad, good]:
                    self.raises(InvalidProgram, beside, value, other)
                    self.raises(InvalidProgram, beside, other, value)
        self.raises(UnsoundProgram, is_quiet, bad)
        for first, second in [(bad, good), (good, bad), (bad, bad)]:
            self.raises(UnsoundProgram, beside, first, second)
        self.assertIs(quiet("{ x[1]; x }"), True)
        # A special name as an array is no target, and a clash chain is no error here.
        self.assertIs(quiet("{ NR[1] = 2; NF[2]++; sub(x, y, FS[1]); split(x, RS) }"), True)

    def test_lists_are_new(self):
        program = program_of("x { y }")
        both, pairs, origins = beside(program, program)
        pairs.append(1)
        origins.append(1)
        self.assertEqual(beside(program, program), (both, pairs[:-1], origins[:-1]))


if __name__ == "__main__":
    unittest.main()
