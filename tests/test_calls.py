"""[18]: which functions call which."""

import unittest

from patterndeeds.calls import calls, deepest, reached, rings, way_to, without_unreached
from patterndeeds.errors import InvalidFunction, InvalidProgram, UnknownFunction, UnsoundProgram
from patterndeeds.parser import program_of
from patterndeeds.trees import is_program, places
from helper import MANY, VALUES, Case, Text, random_of
from making import Faultless
from oracle import calls_of, rows_of_calls

ALL = [calls, reached, rings, deepest, without_unreached]


def functions_of(**bodies):
    """A program in which each function of a name calls those in a string; `rule` is the rule."""
    rows = ["{ %s }" % "; ".join(name + "()" for name in bodies.pop("rule", ""))]
    rows += ["function %s() { %s }" % (name, "; ".join(called + "()" for called in body)) for name,
            body in bodies.items()]
    return program_of("\n".join(rows))


class TestCalls(Case):

    def test_each_place(self):
        for source in ["f()", "1, f()", "f() { }", "{ f() }", "{ x = f() }", "{ x[f()] }", "{ $f() }", "{ $f() = 1 }",
                "{ x[f()]++ }", "{ print f() }", "{ print > f() }", "{ printf 1 | f() }", "{ if (f()) ; }",
                "{ if (1) f() }", "{ if (1) ; else f() }",
                       "{ while (f()) ; }", "{ while (1) f() }", "{ do f(); while (1) }", "{ do ; while (f()) }",
                       "{ for (f(); ; ) ; }", "{ for (; f(); ) ; }", "{ for (; ; f()) ; }", "{ for (;;) f() }",
                       "{ for (x in y) f() }", "{ exit f() }", "{ delete x[f()] }",
                       "{ getline < f() }", "{ f() | getline }", "{ getline x[f()] }", "{ 1 ? 2 : f() }",
                       "{ f() in x }", "{ (1, f()) in x }", "{ 1 ~ f() }", "{ 1 < f() }", "{ 1 f() }", "{ !f() }",
                       "{ -f() }", "{ int(f()) }", "{ 1 && f() }", "{ 1 || f() }", "BEGIN { f() }", "END { f() }"]:
            self.assertEqual(calls(program_of(source + "\nfunction f() { }")), [("", "f")], source)
            if source[0] == "{":
                self.assertEqual(calls(program_of("function g() " + source + "\nfunction f() { }")), [("g", "f")],
                        source)
        self.assertEqual(calls(program_of("{ f(f(g())) } function f(a) { return g() } function g() { }")),
                [("", "f"), ("", "g"), ("f", "g")])
        self.assertEqual(calls(program_of("{ length; int(1) }")), [])

    def test_lists_are_ascending(self):
        program = functions_of(rule="cab", c="ba", b="c", a="")
        self.assertEqual(calls(program), [("", "a"), ("", "b"), ("", "c"), ("b", "c"), ("c", "a"), ("c", "b")])
        self.assertEqual([reached(program), rings(program), deepest(program)], [["a", "b", "c"], ["b", "c"], None])

    def test_reached_and_rings(self):
        for bodies, reached_now, rings_now, deepest_now in [
                ({}, [], [], 0), (dict(f=""), [], [], 0), (dict(rule="f", f=""), ["f"], [], 1),
                (dict(rule="f", f="f"), ["f"], ["f"], None), (dict(f="f"), [], ["f"], 0),
                (dict(f="g", g="f"), [], ["f", "g"], 0),
                (dict(rule="f", f="g", g="h", h=""), ["f", "g", "h"], [], 3),
                (dict(rule="f", f="g", g="h", h="g"), ["f", "g", "h"], ["g", "h"], None),
                (dict(rule="f", f="", g="g"), ["f"], ["g"], 1),
                (dict(rule="fg", f="g", g="h", h="", i="f"), ["f", "g", "h"], [], 3),
                (dict(rule="h", f="g", g="f", h=""), ["h"], ["f", "g"], 1),
                (dict(rule="f", f="gh", g="i", h="", i="j", j=""), list("fghij"), [], 4),
                (dict(rule="a", a="bc", b="d", c="d", d="ef", e="f", f="", g="a"), list("abcdef"), [], 5)]:
            program = functions_of(**bodies)
            self.assertEqual([reached(program), rings(program), deepest(program)],
                    [reached_now, rings_now, deepest_now], bodies)

    def test_way_to(self):
        program = functions_of(rule="ab", a="c", b="d", c="e", d="f", e="f", f="", g="f", h="h")
        for name, way in [("a", ["a"]), ("b", ["b"]), ("c", ["a", "c"]), ("d", ["b", "d"]), ("e", ["a", "c", "e"]),
                ("f", ["b", "d", "f"]), ("g", None), ("h", None)]:
            self.assertEqual(way_to(program, name), way)
            self.assertEqual(way_to(program=program, function=name), way)
        self.assertEqual(way_to(functions_of(rule="a", a="ab", b="a"), "b"), ["a", "b"])

    def test_without_unreached(self):
        program = program_of("function f() { a; b } { g(); if (x) y } function g() { c; h() } function i() { "
                             "while (d) e } function h() { k } BEGIN { z } function j() { l }")
        smaller, moved = without_unreached(program)
        self.assertEqual([function[0] for function in smaller[1]], ["g", "h"])
        self.assertEqual(smaller[0], program[0])
        self.assertEqual(moved, [0, 1, 2, 3, 4, 5, 6, 9, 10, 13])
        self.hold_moved(program)
        for source in ["", "x", "function f() { x }", "{ f() } function f() { x }"]:
            self.hold_moved(program_of(source))
        self.assertEqual(without_unreached(program_of("function f() { f() }")), (((), ()), [0]))

    def hold_moved(self, program):
        smaller, moved = without_unreached(program)
        self.assertTrue(is_program(smaller))
        self.assertEqual(smaller[1], tuple(function for function in program[1] if function[0] in reached(program)))
        self.assertEqual(moved, sorted(set(moved)))
        before = places(program)
        self.assertEqual([before[place] for place in moved], places(smaller))
        self.assertEqual(without_unreached(smaller), (smaller, list(range(len(moved)))))

    def test_random_programs(self):
        rnd = random_of("calls")
        maker = Faultless(rnd)
        many = 0
        for _ in range(200 * MANY):
            program = maker.program(rnd.randrange(3, 6))
            found = calls_of(program)
            self.assertEqual(calls(program), found)
            names = [function[0] for function in program[1]]
            rows = rows_of_calls(program, len(names) + 1)
            self.assertEqual(reached(program), sorted({row[-1] for row in rows}))
            around = {(a, b) for a, b in found}
            for _ in names:
                around |= {(a, d) for a, b in around for c, d in around if b == c}
            self.assertEqual(rings(program), sorted(name for name in names if (name, name) in around))
            ringed = any(len(set(row)) < len(row) for row in rows)
            self.assertEqual(deepest(program), None if ringed else max(map(len, rows), default=0))
            for name in names:
                ways = [row for row in rows if row[-1] == name]
                way = way_to(program, name)
                many += way is not None
                self.assertEqual(way in ways if ways else way is None, True)
                self.assertEqual(0 if way is None else len(way), min(map(len, ways), default=0))
            self.hold_moved(program)
        self.assertGreater(many, 50)

    def test_errors(self):
        for value in VALUES:
            if type(value) is not tuple or value != ((), ()):
                for action in ALL:
                    self.raises(InvalidProgram, action, value)
                    self.raises(InvalidProgram, action, program=value)
                self.raises(InvalidProgram, way_to, value, None)
        for source in ["{ break }", "{ f() }", "function f() { } function f() { f() }"]:
            program = program_of(source)
            for action in ALL:
                self.raises(UnsoundProgram, action, program)
            self.raises(InvalidFunction, way_to, program, "in")
            self.raises(UnsoundProgram, way_to, program, "unknown")
        for value in VALUES + ["in", "close", "", "1", Text("f")]:
            if type(value) is not str or value != "x":
                self.raises(InvalidFunction, way_to, program_of("function f() { }"), value)
        self.raises(UnknownFunction, way_to, program_of("function f() { } { g }"), "g")
        # A clash chain is no error here.
        self.assertEqual(calls(program_of("{ x[1]; x; f() } function f() { }")), [("", "f")])

    def test_lists_are_new(self):
        program = functions_of(rule="f", f="g", g="g")
        for action in [calls, reached, rings, lambda one: way_to(one, "g"), lambda one: without_unreached(one)[1]]:
            want = list(action(program))
            action(program).append(1)
            self.assertEqual(action(program), want)


if __name__ == "__main__":
    unittest.main()
