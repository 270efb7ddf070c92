"""[2], [3], [4]: what holds for all functions, and the interface as it is listed."""

import importlib
import inspect
import unittest

from patterndeeds import beside, calls, errors, kinds, names, parser, printer, renaming, trees, words
from patterndeeds.parser import program_of
from helper import VALUES, Case, Row, Rows, Text
from making import Faultless
from helper import random_of

INTERFACE = {
    "words": {"words_of": ["source"], "spots_of": ["source"], "are_words": ["value"], "too_large": ["words"],
    "source_of": ["words"], "shortest_source": ["words"]},
    "trees": {"is_program": ["value"], "is_expression": ["value"], "places": ["program"], "depth": ["program"]},
    "printer": {"program_text": ["program"], "expression_text": ["expression"]},
    "parser": {"program_of": ["source"], "expression_of": ["source"]},
    "names": {"faults": ["program"]},
    "kinds": {"is_sound": ["program"], "uses": ["program"], "links": ["program"], "clash_chain": ["program"],
    "is_clash_chain": ["program", "value"], "tied": ["program"], "slot_kinds": ["program"], "scalars": ["program"],
    "arrays": ["program"],
              "parameter_kinds": ["program", "function"]},
    "calls": {"calls": ["program"], "reached": ["program"], "way_to": ["program", "function"], "rings": ["program"],
    "deepest": ["program"], "without_unreached": ["program"]},
    "renaming": {"renamed": ["program", "pairs"], "renamed_head": ["program", "function", "names"],
    "plain": ["program"], "likeness": ["program", "other_program"]},
    "beside": {"is_quiet": ["program"], "beside": ["program", "other_program"]},
}
INVALID = {"source": errors.InvalidSource, "words": errors.InvalidWords, "program": errors.InvalidProgram,
        "other_program": errors.InvalidProgram, "expression": errors.InvalidExpression,
        "function": errors.InvalidFunction, "pairs": errors.InvalidNames,
           "names": errors.InvalidNames}
GOOD = {"source": "x", "words": [("name", "x")], "program": ((), (("f", ("a",), ()),)), "other_program": ((), ()),
        "expression": ("name", "x"), "function": "f", "pairs": [("f", "g")], "names": ("b",), "value": None}
BAD = {"source": "x%", "words": [("call", "x")], "program": ((), ()) + ((),), "other_program": None,
        "expression": ("name", "in"), "function": "in", "pairs": [("f", "NR")], "names": ["b"]}


def functions():
    for module, table in INTERFACE.items():
        for name, parameters in table.items():
            yield module, name, getattr(importlib.import_module("patterndeeds." + module), name), parameters


class TestInterface(Case):

    def test_names_and_arguments(self):
        for module, name, function, parameters in functions():
            self.assertTrue(inspect.isfunction(function))
            self.assertEqual(function.__module__, "patterndeeds." + module)
            self.assertEqual(function.__name__, name)
            self.assertEqual(list(inspect.signature(function).parameters), parameters)

    def test_by_position_and_by_name(self):
        for _, _, function, parameters in functions():
            values = [GOOD[one] for one in parameters]
            result = function(*values)
            self.assertEqual(function(**dict(zip(parameters, values))), result)
            self.assertEqual(function(*values), result)

    def test_the_first_wrong_parameter_counts(self):
        for _, _, function, parameters in functions():
            checked = [one for one in parameters if one in INVALID]
            for at, wrong in enumerate(checked):
                values = [GOOD[one] if one not in checked[at:] else BAD[one] for one in parameters]
                self.raises(INVALID[wrong], function, *values)
                values = [BAD[one] if one == wrong else GOOD[one] for one in parameters]
                self.raises(INVALID[wrong], function, *values)

    def test_wrong_parameters_ahead_of_faults_and_clashes(self):
        unsound = program_of("{ break }")
        for module, _, function, parameters in functions():
            if module in ("kinds", "calls", "renaming", "beside") and function is not kinds.is_sound:
                values = [unsound if one == "program" else GOOD[one] for one in parameters]
                self.raises(errors.UnsoundProgram, function, *values)
                for at, wrong in enumerate(parameters[1:], 1):
                    if wrong in INVALID:
                        self.raises(INVALID[wrong], function, *(values[:at] + [BAD[wrong]] + values[at + 1:]))

    def test_subclasses_are_not_taken(self):
        self.raises(errors.InvalidSource, words.words_of, Text("x"))
        self.raises(errors.InvalidWords, words.source_of, Rows([("name", "x")]))
        self.raises(errors.InvalidWords, words.source_of, [Row(("name", "x"))])
        self.raises(errors.InvalidProgram, names.faults, Row(((), ())))
        self.raises(errors.InvalidExpression, printer.expression_text, Row(("name", "x")))
        self.raises(errors.InvalidFunction, calls.way_to, GOOD["program"], Text("f"))
        self.raises(errors.InvalidNames, renaming.renamed, GOOD["program"], Rows([("f", "g")]))
        self.raises(errors.InvalidNames, renaming.renamed_head, GOOD["program"], "f", Row(("b",)))

    def test_truths_are_truths(self):
        for value in VALUES:
            for test in [words.are_words, trees.is_program, trees.is_expression,
                    lambda one: kinds.is_clash_chain(((), ()), one)]:
                self.assertIn(test(value), (True, False))
                self.assertIs(type(test(value)), bool)
        for program in [GOOD["program"], ((), ())]:
            self.assertIs(type(kinds.is_sound(program)), bool)
            self.assertIs(type(beside.is_quiet(program)), bool)
        self.assertIs(type(words.too_large([])), bool)

    def test_arguments_stay_as_they_are(self):
        rows = [("name", "x"), ("symbol", "+")]
        for action in [words.are_words, words.too_large, words.source_of, words.shortest_source]:
            action(rows)
            self.assertEqual(rows, [("name", "x"), ("symbol", "+")])
        pairs = [("f", "g"), ("a", "b")]
        renaming.renamed(GOOD["program"], pairs)
        self.assertEqual(pairs, [("f", "g"), ("a", "b")])
        chain = [("", "x"), ("", "y")]
        kinds.is_clash_chain(GOOD["program"], chain)
        self.assertEqual(chain, [("", "x"), ("", "y")])

    def test_lists_are_new(self):
        for action in [words.words_of, words.spots_of]:
            action("x y").append(1)
            self.assertEqual(len(action("x y")), 2)


class TestLimits(Case):

    def test_signs(self):
        for code in range(0, 256):
            holds = code in (9, 10) or 32 <= code < 127 and code != 37
            self.assertIs(trees.is_expression(("text", chr(code))), holds)
            self.assertIs(words.are_words([("text", chr(code))]), holds)

    def test_large_programs(self):
        """All functions answer for programs of sources at the limit."""
        sources = ["function f%d(a, b) { f%d(b, a); a[1] }\n" % (at,
                at + 1) for at in range(250)] + ["function f250(a, b) { length(b) }\n{ f0(x, y) }\n"]
        chain = ["function f%d(a) { f%d(a) }\n" % (at,
                at + 1) for at in range(280)] + ["function f280(a) { a[1] }\n{ f0(x); x = 1 }\n"]
        wide = ["{ x%d = y%d[%d] }\n" % (at, at, at) for at in range(500)]
        for source in ["".join(sources), "".join(chain), "".join(wide), "x\n" * 5900,
                "{" * 28 + "x = 1\n" * 1500 + "}" * 28]:
            self.assertLess(len(source), 12000)
            program = parser.program_of(source)
            self.assertEqual(parser.program_of(printer.program_text(program)), program)
            self.assertEqual(names.faults(program), [])
            found = kinds.clash_chain(program)
            if found is None:
                kinds.slot_kinds(program)
            else:
                self.assertIs(kinds.is_clash_chain(program, found), True)
            self.assertEqual(len(calls.reached(program)), len(program[1]))
            self.assertEqual(calls.deepest(program), len(program[1]))
            self.assertEqual(calls.without_unreached(program)[0], program)
            self.assertEqual(renaming.plain(renaming.plain(program)), renaming.plain(program))
            self.assertIsNotNone(renaming.likeness(program, renaming.plain(program)))
            both = beside.beside(program, program)[0]
            self.assertEqual(len(both[0]), 2 * len(program[0]))

    def test_deep_programs(self):
        """Trees of depth 40 and beyond, made of statements and of expressions."""
        for levels in (12, 25, 38, 60):
            statement, tree = ("next",), ("name", "x")
            for at in range(levels):
                statement = [("while", ("name", "x"), (statement,)), ("if", tree, (), (statement,)),
                        ("do", (statement,), tree), ("for", (("expr", tree),), tree, (), (statement,))][at % 4]
                tree = [("minus", tree), ("call", "f", (tree,)), ("element", "y", (tree,)),
                        ("getline", "<", tree, ("field", ("name", "x"))),
                        ("set", ("field", tree), tree if at < 12 else ("name", "x"))][at % 5]
            program = ((("always", (statement,)), ("when", tree, None)), (("f", ("a",), ()),))
            self.assertTrue(trees.is_program(program))
            self.assertGreater(trees.depth(program), levels)
            self.assertEqual(names.faults(program), [])
            self.assertIs(kinds.is_sound(program), True)
            self.assertEqual(calls.calls(program), [("", "f")])
            self.assertEqual(renaming.plain(renaming.renamed(program, [("x", "y"), ("y", "x"), ("f", "g")])),
                    renaming.plain(program))
            self.assertIs(beside.is_quiet(program), False)
            if levels < 25:
                self.assertEqual(parser.program_of(printer.program_text(program)), program)

    def test_equal_calls_have_equal_results(self):
        maker = Faultless(random_of("equal"))
        for _ in range(20):
            program = maker.program(5)
            for module, _, function, parameters in functions():
                if parameters == ["program"] and module != "kinds":
                    self.assertEqual(function(program), function(program))


if __name__ == "__main__":
    unittest.main()
