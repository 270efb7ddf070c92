"""[15], [16], [17] and the facts N1, N3: which names are arrays."""

import itertools
import unittest

from patterndeeds import kinds
from patterndeeds.errors import InvalidFunction, InvalidProgram, KindClash, UnknownFunction, UnsoundProgram
from patterndeeds.kinds import (
    arrays, clash_chain, is_clash_chain, is_sound, links, parameter_kinds, scalars, slot_kinds, tied, uses,
)
from patterndeeds.parser import program_of
from helper import MANY, VALUES, Case, Row, Rows, Text, random_of
from making import Faultless
from oracle import SPECIALS, distances, fewest_in_chain, kinds_of, slots_of, uses_and_links

ALL = [is_sound, uses, links, clash_chain, tied, slot_kinds, scalars, arrays]
KINDS = [slot_kinds, scalars, arrays]
BASE = [(0, ("", name), "value") for name in SPECIALS]


def uses_in(source):
    """The uses of a source but for those of the special names at place 0."""
    found = uses(program_of(source))
    assert found[:len(BASE)] == BASE and found == sorted(set(found))
    return found[len(BASE):]


def links_in(source):
    return links(program_of(source))


class TestUses(Case):

    def test_examples(self):
        bad = program_of("function f(a) { a[1] = 2 } { f(x); x = 3 }")
        self.assertEqual([links(bad), clash_chain(bad)], [[(2, ('', 'x'), ('f', 'a'))], [('f', 'a'), ('', 'x')]])

    def test_values(self):
        for source, place in [("x", 1), ("-x", 1), ("1, x", 1), ("{ x }", 2), ("{ x = 1 }", 2), ("{ x += 1 }", 2),
                ("{ x++ }", 2), ("{ --x }", 2), ("{ $x }", 2), ("{ $x = 1 }", 2), ("{ print x }", 2),
                ("{ print > x }", 2), ("{ printf 1, x }", 2), ("{ printf 1 | x }", 2),
                              ("{ if (x) ; }", 2), ("{ if (1) x }", 3), ("{ if (1) ; else x }", 3),
                              ("{ while (x) ; }", 2), ("{ do ; while (x) }", 2), ("{ do x; while (1) }", 3),
                              ("{ for (x; ; ) ; }", 3), ("{ for (; x; ) ; }", 2), ("{ for (; ; x) ; }", 3),
                              ("{ for (;;) x }", 3),
                              ("{ exit x }", 2), ("{ getline x }", 2), ("{ getline < x }", 2), ("{ x | getline }", 2),
                              ("{ 1 | getline x }", 2), ("{ 1 ? 2 : x }", 2), ("{ 1 ~ x }", 2), ("{ 1 < x }", 2),
                              ("{ 1 || x }", 2), ("{ x && 1 }", 2), ("{ 1 x }", 2), ("{ !x }", 2),
                              ("{ length(x + 1) }", 2), ("{ length(-x) }", 2), ("{ index(x, 1) }", 2),
                              ("{ index(1, x) }", 2), ("{ sub(1, 2, x) }", 2), ("{ gsub(1, 2, x) }", 2),
                              ("{ sub(x, 2) }", 2), ("{ gsub(1, x) }", 2), ("{ int(x) }", 2), ("{ sprintf(1, x) }", 2),
                              ("BEGIN { } { 1; x }", 4)]:
            self.assertEqual(uses_in(source), [(place, ("", "x"), "value")], source)
            self.assertEqual(links_in(source), [])

    def test_arrays(self):
        for source, place in [("a[1]", 1), ("1, a[1]", 1), ("{ a[1, 2] = 3 }", 2), ("{ a[1]++ }", 2),
                ("{ 1 in a }", 2), ("{ (1, 2) in a }", 2), ("{ delete a }", 2), ("{ delete a[1] }", 2),
                ("{ split(1, a) }", 2), ("{ split(1, a, 2) }", 2), ("{ getline a[1] }", 2),
                              ("{ sub(1, 2, a[1]) }", 2), ("{ length(a[1]) }", 2), ("{ if (1) while (2) a[1] }", 4),
                              ("{ for (;1 in a;) ; }", 2), ("{ print 1, a[2] > a[3] }", 2)]:
            self.assertEqual(uses_in(source), [(place, ("", "a"), "array")], source)
        self.assertEqual(uses_in("{ for (k in a) ; }"), [(2, ("", "a"), "array"), (2, ("", "k"), "value")])
        self.assertEqual(uses_in("{ a[x] }"), [(2, ("", "a"), "array"), (2, ("", "x"), "value")])
        self.assertEqual(uses_in("{ a in a }"), [(2, ("", "a"), "array"), (2, ("", "a"), "value")])
        self.assertEqual(uses_in("{ split(a, a) }"), [(2, ("", "a"), "array"), (2, ("", "a"), "value")])
        self.assertEqual(uses_in("{ split(x, a, y) }"), [(2, ("", "a"), "array"), (2, ("", "x"), "value"),
                (2, ("", "y"), "value")])
        self.assertEqual(uses_in("{ delete a[x]; x = 1 }"), [(2, ("", "a"), "array"), (2, ("", "x"), "value"),
                (3, ("", "x"), "value")])

    def test_length(self):
        self.assertEqual(uses_in("{ length(x) }"), [(2, ("", "x"), "open")])
        self.assertEqual(uses_in("{ length(x) length(x[1]) x }"), [(2, ("", "x"), "array"), (2, ("", "x"), "open"),
                (2, ("", "x"), "value")])
        self.assertEqual(uses_in("{ length; length() }"), [])
        self.assertEqual(uses_in("{ length(length(x)) }"), [(2, ("", "x"), "open")])
        self.assertEqual(uses_in("function f(x) { length(x) }"), [(1, ("f", "x"), "open")])

    def test_handed_names(self):
        more = " function f(a, b) { }"
        self.assertEqual(uses_in("{ f(x) }" + more), [])
        self.assertEqual(links_in("{ f(x) }" + more), [(2, ("", "x"), ("f", "a"))])
        self.assertEqual(links_in("{ f(x, x); f(1, y) }" + more), [(2, ("", "x"), ("f", "a")),
                (2, ("", "x"), ("f", "b")), (3, ("", "y"), ("f", "b"))])
        self.assertEqual(uses_in("{ f(x, x); f(1, y) }" + more), [(3, ("f", "a"), "value")])
        for part, found in [("1", []), ("x + 1", [(2, ("", "x"), "value")]), ("x[1]", [(2, ("", "x"), "array")]),
                ("-x", [(2, ("", "x"), "value")]), ("$x", [(2, ("", "x"), "value")]),
                ("length(x)", [(2, ("", "x"), "open")])]:
            self.assertEqual(uses_in("{ f(%s) }%s" % (part, more)), sorted(found + [(2, ("f", "a"), "value")]))
            self.assertEqual(links_in("{ f(%s) }%s" % (part, more)), [])
        self.assertEqual(links_in("{ f((x)) }" + more), [(2, ("", "x"), ("f", "a"))])
        self.assertEqual(links_in("{ f(f(x), NR) }" + more), [(2, ("", "NR"), ("f", "b")), (2, ("", "x"), ("f", "a"))])
        self.assertEqual(uses_in("{ f(f(x), NR) }" + more), [(2, ("f", "a"), "value")])
        self.assertEqual(links_in("function f(a, b) { f(b, a); g(a); x = g(c) } function g(a) { g(a) }"), [
            (1, ("f", "a"), ("f", "b")), (1, ("f", "b"), ("f", "a")), (2, ("f", "a"), ("g", "a")),
            (3, ("", "c"), ("g", "a")), (4, ("g", "a"), ("g", "a"))])
        self.assertEqual(links_in("{ for (f(x); f(y); f(z)) f(w) }" + more),
                [(2, ("", "y"), ("f", "a")), (3, ("", "x"), ("f", "a")), (4, ("", "z"), ("f", "a")),
                (5, ("", "w"), ("f", "a"))])

    def test_parameters_here_and_elsewhere(self):
        source = "{ x[1] } function f(x) { x = 1 } function g(y) { x[2]; y } function h() { y++ }"
        self.assertEqual(uses_in(source), [(2, ("", "x"), "array"), (3, ("f", "x"), "value"), (4, ("", "x"), "array"),
                (5, ("g", "y"), "value"), (6, ("", "y"), "value")])
        self.assertEqual(arrays(program_of(source)), ("x",))

    def test_special_names(self):
        self.assertEqual(uses(((), ())), BASE)
        self.assertEqual(uses_in("{ NR = NF }"), [(2, ("", "NF"), "value"), (2, ("", "NR"), "value")])
        self.assertEqual(slot_kinds(((), ())), [(("", name), "value") for name in SPECIALS])
        self.assertEqual(tied(((), ())), [[("", name)] for name in SPECIALS])
        self.assertEqual(scalars(((), ())), tuple(SPECIALS))
        self.assertEqual(arrays(((), ())), ())
        self.assertEqual(clash_chain(program_of("{ NR[1] }")), [("", "NR")])
        self.assertEqual(clash_chain(program_of("{ split(x, FS) }")), [("", "FS")])
        self.assertEqual(clash_chain(program_of("{ f(NF) } function f(a) { delete a }")), [("f", "a"), ("", "NF")])


class TestKinds(Case):

    def test_handed_on(self):
        program = program_of("{ f(x) } function f(a) { g(a) } function g(b) { h(1, b) } function h(c, d) { d[c] }")
        self.assertEqual([row for row in tied(program) if row[0][1] not in SPECIALS],
                         [[("", "x"), ("f", "a"), ("g", "b"), ("h", "d")], [("h", "c")]])
        self.assertEqual([row for row in slot_kinds(program) if row[0][1] not in SPECIALS],
                         [(("", "x"), "array"), (("f", "a"), "array"), (("g", "b"), "array"), (("h", "c"), "value"),
                         (("h", "d"), "array")])
        self.assertEqual(arrays(program), ("x",))
        self.assertEqual([parameter_kinds(program, name) for name in "fgh"],
                [("array",), ("array",), ("value", "array")])

    def test_round(self):
        program = program_of("function f(a, b) { g(b, a) } function g(c, d) { f(d, c); length(d) } { f(x, y) }")
        self.assertEqual([row for row in tied(program) if row[0][1] not in SPECIALS],
                [[("", "x"), ("f", "a"), ("g", "d")], [("", "y"), ("f", "b"), ("g", "c")]])
        self.assertEqual(parameter_kinds(program, "f"), ("value", "value"))
        self.assertEqual({row[1] for row in slot_kinds(program) if row[0][1] not in SPECIALS}, {"open"})
        self.assertEqual(scalars(program), tuple(sorted(SPECIALS + ["x", "y"])))
        program = program_of("function f(a, b) { g(b, a); a[1] } function g(c, d) { f(d, c); c++ } { f(x, y) }")
        self.assertEqual([parameter_kinds(program, "f"), parameter_kinds(program, "g")],
                [("array", "value"), ("value", "array")])
        self.assertEqual([arrays(program), is_sound(program)], [("x",), True])

    def test_open(self):
        program = program_of("function f(a, b, c) { length(a); b } { length(x); f(y) }")
        self.assertEqual([row for row in slot_kinds(program) if row[0][1] not in SPECIALS],
                [(("", "x"), "open"), (("", "y"), "open"), (("f", "a"), "open"), (("f", "b"), "value"),
                (("f", "c"), "open")])
        self.assertEqual(parameter_kinds(program, "f"), ("value", "value", "value"))
        self.assertEqual(parameter_kinds(program_of("function f() { }"), "f"), ())

    def test_clashes(self):
        for source, chain in [
                ("{ x[1]; x }", [("", "x")]), ("{ f(1) } function f(a) { a[1] }", [("f", "a")]),
                ("{ f(x); g(x); x++ } function f(a) { } function g(b) { delete b }", [("g", "b"), ("", "x")]),
                ("{ f(x); f(y); x[1]; y } function f(a) { }", [("", "x"), ("f", "a"), ("", "y")]),
                ("{ for (x in x) ; }", [("", "x")]), ("{ f(x); x[1] } function f(a) { f(1) }", [("", "x"), ("f", "a")]),
                ("{ f(x); x[1]; g(x); y; g(y) } function f(a) { h(a) } function h(c) { c } function g(b) { }", None),
                ("{ length(x); x[1] }", False), ("{ f(x); f(y); x[1]; y[1]; length(x) } function f(a) { length(a) }",
                False)]:
            program = program_of(source)
            if chain is False:
                self.assertEqual([clash_chain(program), is_sound(program)], [None, True])
                continue
            found = clash_chain(program)
            self.assertEqual(len(found), fewest_in_chain(program))
            self.assertIs(is_clash_chain(program, found), True)
            self.assertIs(is_sound(program), False)
            if chain is not None:
                self.assertEqual(found, chain)
            for action in KINDS:
                self.raises_with(KindClash, "chain", found, action, program)
            self.assertEqual(len(tied(program)) > 0 and len(uses(program)) > 0, True)

    def test_clashes_of_parameters(self):
        program = program_of("function f(a) { a[1]; a }")
        self.raises_with(KindClash, "chain", [("f", "a")], parameter_kinds, program, "f")
        self.raises_with(KindClash, "chain", [("f", "a")], parameter_kinds, program, "unknown")
        self.raises(UnknownFunction, parameter_kinds, program_of("function f(a) { a[1] }"), "g")

    def test_chain_is_new(self):
        program = program_of("{ x[1]; x }")
        self.raises(KindClash, slot_kinds, program).chain.append(1)
        clash_chain(program).append(2)
        self.assertEqual(clash_chain(program), [("", "x")])
        self.raises_with(KindClash, "chain", [("", "x")], slot_kinds, program)
        for action in [uses, links, tied, slot_kinds]:
            good = program_of("{ f(x) } function f(a) { f(a) }")
            want = action(good)
            action(good).append(1)
            if action is tied:
                action(good)[0].append(1)
            self.assertEqual(action(good), want)


class TestIsClashChain(Case):

    def test_any_value(self):
        program = program_of("{ f(x); f(y); x[1]; y; z[1] = z } function f(a) { f(a) }")
        for chain in [[("", "x"), ("f", "a"), ("", "y")], [("", "z")], [("", "x"), ("f", "a"), ("f", "a"), ("", "y")],
                [("", "x"), ("f", "a"), ("", "x"), ("f", "a"), ("", "y")],
                [("", "x"), ("f", "a"), ("", "y"), ("f", "a"), ("", "y")]]:
            self.assertIs(is_clash_chain(program, chain), True, chain)
        for chain in [[], [("", "x")], [("", "y")], [("f", "a")], [("", "x"), ("", "y")],
                [("", "y"), ("f", "a"), ("", "x")], [("", "x"), ("f", "a")], [("f", "a"), ("", "y")],
                [("", "z"), ("", "z")], [("", "x"), ("f", "a"), ("", "z")], [("", "unknown")],
                      [("g", "x")], (("", "z"),), Rows([("", "z")]), [Row(("", "z"))], [["", "z"]], [("", "z", "z")],
                      [("",)], [("", Text("z"))], [(Text(""), "z")], [(None, "z")], [("", None)], [("", ["z"])],
                      [None], ["z"], [("", "z"), None], [()], [("", "NR")],
                      None, "z", 1, True, {}, [[("", "z")]], [("", ("z",))],
                      [("", "x"), ("f", "a"), ("", "y"), ("", "z")]]:
            self.assertIs(is_clash_chain(program, chain), False, chain)
        for value in VALUES:
            self.assertIs(is_clash_chain(program, value), False)
            self.assertIs(is_clash_chain(((), ()), value), False)
        self.assertIs(is_clash_chain(program=program, value=[("", "z")]), True)


class TestFacts(Case):

    def test_against_the_oracle(self):
        rnd = random_of("kinds")
        maker = Faultless(rnd, ["x", "y", "n", "NF"])
        sound, chains = 0, set()
        for _ in range(400 * MANY):
            program = maker.program(rnd.randrange(3, 6))
            self.assertEqual((uses(program), links(program)), uses_and_links(program))
            groups = {}
            for first, second in distances(program):
                groups.setdefault(first, []).append(second)
            self.assertEqual(tied(program), sorted(map(list, {tuple(sorted(row)) for row in groups.values()})))
            fewest = fewest_in_chain(program)
            found = clash_chain(program)
            self.assertEqual(found if found is None else len(found), fewest)
            self.assertIs(is_sound(program), fewest is None)
            chains.add(fewest)
            if found is None:
                sound += 1
                self.hold_kinds(program, rnd)
            else:
                self.hold_chain(program, found, rnd)
        self.assertGreater(sound, 50)
        self.assertTrue({1, 2, 3} <= chains, chains)

    def hold_kinds(self, program, rnd):
        """N1: one kind for each slot."""
        want = kinds_of(program)
        self.assertEqual(slot_kinds(program), want)
        table = dict(want)
        self.assertEqual(sorted(table), slots_of(program))
        self.assertEqual(arrays(program), tuple(name for (owner, name),
                kind in want if owner == "" and kind == "array"))
        self.assertEqual(scalars(program), tuple(name for (owner, name),
                kind in want if owner == "" and kind != "array"))
        for name, params, _ in program[1]:
            kinds_found = tuple("array" if table[(name, param)] == "array" else "value" for param in params)
            self.assertEqual(parameter_kinds(program, name), kinds_found)
            self.assertEqual(parameter_kinds(program=program, function=name), kinds_found)
        for one in slots_of(program):
            self.assertIs(is_clash_chain(program, [one]), False)

    def hold_chain(self, program, chain, rnd):
        """N1: a clash chain, and then no kinds."""
        self.assertIs(is_clash_chain(program, chain), True)
        arrays_used = {use[1] for use in uses(program) if use[2] == "array"}
        values_used = {use[1] for use in uses(program) if use[2] == "value"}
        pairs = {link[1:] for link in links(program)}
        self.assertTrue(chain[0] in arrays_used and chain[-1] in values_used)
        for first, second in zip(chain, chain[1:]):
            self.assertTrue((first, second) in pairs or (second, first) in pairs)
        for action in KINDS:
            self.raises_with(KindClash, "chain", chain, action, program)
        slots = slots_of(program)
        for _ in range(5):
            row = [rnd.choice(slots) for _ in range(rnd.randrange(1, 4))]
            holds = row[0] in arrays_used and row[-1] in values_used and all((a, b) in pairs or (b, a) in pairs for a,
                    b in zip(row, row[1:]))
            self.assertIs(is_clash_chain(program, row), holds)

    def test_n3_the_only_division(self):
        for source in ["{ f(x); y; length(z) } function f(a) { a[1] }",
                "{ f(x, y) } function f(a, b) { length(a); b[1] }",
                "{ f(x) } function f(a) { g(a) } function g(b) { b++ }", "{ f(x); f(y) } function f(a) { }"]:
            program = program_of(source)
            table = {row[0]: row[1] for row in slot_kinds(program)}
            slots = [one for one in sorted(table) if one[1] not in SPECIALS]
            fitting = 0
            for kinds_tried in itertools.product(["array", "value"], repeat=len(slots)):
                tried = dict(zip(slots, kinds_tried))
                tried.update({("", name): "value" for name in SPECIALS})
                agrees = all(how == "open" or tried[one] == how for _, one, how in uses(program))
                if agrees and all(tried[first] == tried[second] for _, first, second in links(program)):
                    fitting += 1
                    self.assertTrue(all(table[one] in (tried[one], "open") for one in slots))
            self.assertGreater(fitting, 0)


class TestErrors(Case):

    def test_invalid_comes_first(self):
        for value in VALUES:
            if type(value) is not tuple or value != ((), ()):
                for action in ALL:
                    self.raises(InvalidProgram, action, value)
                    self.raises(InvalidProgram, action, program=value)
                self.raises(InvalidProgram, is_clash_chain, value, None)
                self.raises(InvalidProgram, parameter_kinds, value, None)

    def test_unsound_comes_next(self):
        for source in ["{ break }", "{ f() }", "{ x[1]; x; return }", "function f(a) { } function f(b) { }"]:
            program = program_of(source)
            for action in ALL[1:]:
                self.raises(UnsoundProgram, action, program)
            self.raises(UnsoundProgram, is_clash_chain, program, None)
            self.raises(UnsoundProgram, parameter_kinds, program, "g")
            self.assertIs(is_sound(program), False)
            for value in VALUES + ["in", "length", "1", "", Text("f")]:
                if value != "x" or type(value) is not str:
                    self.raises(InvalidFunction, parameter_kinds, program, value)
                    self.raises(InvalidFunction, parameter_kinds, program_of("{ x[1]; x }"), value)

    def test_defined_there(self):
        for action in ALL + [is_clash_chain, parameter_kinds]:
            self.assertEqual(action.__module__, kinds.__name__)


if __name__ == "__main__":
    unittest.main()
