"""[2], [3], [4]: the interface of values, patterns, records and runs, and what holds for all of it."""

import copy
import importlib
import inspect
import unittest

from patterndeeds import errors, kinds
from patterndeeds.acceptors import whole_acceptor
from patterndeeds.bench import Bench, TiedBench
from patterndeeds.codes import code_of
from patterndeeds.console import Console
from patterndeeds.heldtexts import held_text
from patterndeeds.machine import begun
from patterndeeds.parser import program_of
from patterndeeds.patterns import read_pattern
from patterndeeds.walker import tick_places, walk
from helper import VALUES, Case, Number, Row

P, Q = read_pattern("a(b|.)*"), read_pattern("^a|b+")
ONE, TWO = ("number", 7, 2), ("seen", "12x")
WORLD = ((("f", "a b\n", False),), (("<", "g", "x", True),))
PROGRAM = program_of("$1 { n[$1]++; f(n) } function f(a) { a[1] = 2 }")
CODE = code_of(PROGRAM)
BAD_CODE = CODE[:3] + ((("", (), (("drop",), ("phase", "end"), ("halt",))),),)
HELD = begun(CODE)
ENTRY = ("entry", 0, 5, 0)
# For each function of each module its parameters, each with an argument.
INTERFACE = {
    "values": {
        "is_value": {"value": ONE}, "has_number_form": {"text": " 1"}, "is_like_number": {"one": ONE},
        "is_true": {"one": TWO}, "number_of": {"one": TWO}, "text_of": {"one": ONE},
        "compared": {"one": ONE, "other": TWO}, "operated": {"operator": "+", "one": ONE, "other": TWO},
        "as_number": {"one": TWO}, "minus": {"one": ONE}, "whole": {"one": ONE},
        "put_together": {"one": ONE, "other": TWO}, "round_of": {"values": [ONE, TWO]}},
    "formats": {
        "read_format": {"text": "@5d!"}, "written_format": {"pieces": [("plain", "a")]},
        "is_format": {"value": [("plain", "a")]},
        "directive_text": {"piece": ("directive", False, False, 0, None, "d"), "one": ONE},
        "formatted": {"text": "@d", "values": [ONE]}},
    "patterns": {
        "read_pattern": {"text": "a|b"}, "ending": {"text": "(a"}, "written_pattern": {"pattern": P},
        "is_pattern": {"value": P}, "size": {"pattern": P}, "turned": {"pattern": P}},
    "matching": {
        "takes": {"pattern": P, "text": "xab", "start": 1, "end": 3}, "holds": {"pattern": P, "text": "xab"},
        "longest": {"pattern": P, "text": "xab", "start": 1}, "found": {"pattern": P, "text": "xab", "start": 0},
        "stretches": {"pattern": P, "text": "xab"}, "cuts": {"pattern": P, "text": "xab"},
        "derivation": {"pattern": P, "text": "xab", "start": 1, "end": 3},
        "is_derivation": {"pattern": P, "text": "xab", "start": 1, "end": 3, "value": ("one",)},
        "put_in": {"new": "&", "taken": "a"}, "replaced": {"pattern": P, "new": "-", "text": "xab", "every": True}},
    "texts": {
        "built": {"name": "index", "values": [ONE, TWO]}, "pattern_of": {"one": TWO},
        "match_places": {"pattern": P, "text": "xab"}},
    "acceptors": {
        "whole_acceptor": {"pattern": P}, "holding_acceptor": {"pattern": P}, "is_least": {"value": None},
        "state_after": {"acceptor": whole_acceptor(P), "text": "ab"},
        "accepts": {"acceptor": whole_acceptor(P), "text": "ab"},
        "parting_end": {"acceptor": whole_acceptor(P), "state": 0, "other_state": 1},
        "alike": {"pattern": P, "other_pattern": Q}, "parting": {"pattern": P, "other_pattern": Q},
        "is_parting": {"pattern": P, "other_pattern": Q, "value": ("b", 0, 1)},
        "within": {"pattern": P, "other_pattern": Q}, "count_whole": {"pattern": P, "length": 3},
        "nth_whole": {"pattern": P, "number": 5}, "number_whole": {"pattern": P, "text": "ab"},
        "fitting": {"patterns": [P], "others": [Q]}, "groups": {"patterns": [P, Q]}},
    "records": {
        "field_separator": {"text": ","}, "record_separator": {"text": ""},
        "parted": {"text": "a,b", "separator": ("sign", ","), "paragraphs": False},
        "gaps": {"text": "a,b", "separator": ("sign", ","), "paragraphs": False},
        "joined": {"fields": ["a", "b"], "joint": "-"},
        "unkept": {"pattern": P, "joint": ",", "separator": ("sign", ",")},
        "record_of": {"text": "a b", "field_text": " ", "record_text": "\n"}, "field_number": {"one": ONE},
        "field_value": {"record": ("a b", ("a", "b")), "number": 1},
        "with_field": {"record": ("a b", ("a", "b")), "number": 1, "text": "c", "joint": "-"},
        "with_count": {"record": ("a b", ("a", "b")), "number": 1, "joint": "-"},
        "next_record": {"text": "a\nb", "at": 0, "whole": False, "separator": ("sign", "\n")},
        "record_texts": {"text": "a\nb", "separator": ("paragraphs",)},
        "unsettled": {"text": "a\nb", "separator": ("pattern", P)}},
    "worlds": {
        "is_world": {"value": WORLD}, "has_more": {"world": WORLD, "other_world": WORLD},
        "with_main": {"world": WORLD, "index": 0, "text": "c", "whole": True},
        "with_aside": {"world": WORLD, "kind": "|", "name": "h", "text": "c", "whole": True},
        "cut_world": {"world": WORLD, "numbers": [1]}},
    "walker": {
        "walk": {"program": PROGRAM, "world": WORLD, "count": 9},
        "tick_places": {"program": PROGRAM, "world": WORLD, "count": 9}},
    "codes": {"is_code": {"value": None}, "code_of": {"program": PROGRAM}},
    "checker": {
        "code_fault": {"code": BAD_CODE}, "is_code_fault": {"code": BAD_CODE, "value": ("lacks", 0, [[0]])},
        "shapes": {"code": CODE}, "step_bound": {"code": CODE}},
    "machine": {
        "begun": {"code": CODE}, "step": {"code": CODE, "world": WORLD, "held": HELD},
        "end_of": {"code": CODE, "world": WORLD, "held": HELD},
        "go": {"code": CODE, "world": WORLD, "held": HELD, "count": 9}, "told": {"code": CODE, "held": HELD},
        "outcome": {"code": CODE, "world": WORLD, "count": 9}, "fits": {"code": CODE, "world": WORLD, "value": HELD}},
    "heldtexts": {
        "held_text": {"code": CODE, "held": HELD}, "held_of": {"code": CODE, "text": held_text(CODE, HELD)}},
    "folding": {"folded": {"code": CODE}, "trimmed": {"code": CODE}, "swept": {"code": CODE}},
    "likeness": {
        "go_alike": {"code": CODE, "other_code": CODE}, "code_parting": {"code": CODE, "other_code": CODE},
        "is_code_parting": {"code": CODE, "other_code": CODE, "value": (0, False, ())}, "least_code": {"code": CODE}},
    "shortening": {"shortened": {"code": CODE}},
    "knowing": {
        "spots": {"code": CODE}, "spot_kinds": {"code": CODE, "spot": ENTRY},
        "kind_reason": {"code": CODE, "spot": ENTRY, "kind": "number"},
        "is_kind_reason": {"code": CODE, "spot": ENTRY, "kind": "number", "value": [ENTRY]},
                "sharpened": {"code": CODE}},
    "hanging": {
        "hangs": {"code": CODE, "spot": ENTRY}, "course_hangs": {"code": CODE},
        "root_chain": {"code": CODE, "root": ("field", 1), "spot": ("array", "n")},
        "is_root_chain": {"code": CODE, "root": ("field", 1), "spot": ENTRY, "value": [ENTRY]}},
    "bench": {"replay": {"program": PROGRAM, "world": WORLD, "deeds": [("go", 3), ("mark", 1)]}},
}
DEFAULTS = {("matching", "found"): {"start": 0}, ("records", "parted"): {"paragraphs": False},
            ("records", "gaps"): {"paragraphs": False}}


def functions():
    """The module, the name, the function and its arguments, for each function."""
    for module, table in INTERFACE.items():
        for name, arguments in table.items():
            yield module, name, getattr(importlib.import_module("patterndeeds." + module), name), arguments


def told(value):
    """What tells a value from others, its kinds of parts included."""
    if isinstance(value, Bench):
        value = (type(value), value.program, value.world, value.deeds, value.told())
    return repr(value)


def lists_in(value):
    """All lists in a value."""
    rows = [value] if type(value) is list else []
    if type(value) in (list, tuple):
        for part in value:
            rows.extend(lists_in(part))
    return rows


class TestInterface(Case):

    def test_names_and_arguments(self):
        for module, name, function, arguments in functions():
            self.assertTrue(inspect.isfunction(function))
            self.assertEqual((function.__module__, function.__name__), ("patterndeeds." + module, name))
            parameters = inspect.signature(function).parameters
            self.assertEqual(list(parameters), list(arguments))
            defaults = {one.name: one.default for one in parameters.values() if one.default is not one.empty}
            self.assertEqual(defaults, DEFAULTS.get((module, name), {}))

    def test_by_position_and_by_name(self):
        for _, _, function, arguments in functions():
            result = function(*arguments.values())
            self.assertEqual(told(function(**arguments)), told(result))
            self.assertEqual(told(function(*arguments.values())), told(result))

    def test_defaults(self):
        for (module, name), defaults in DEFAULTS.items():
            function = getattr(importlib.import_module("patterndeeds." + module), name)
            arguments = INTERFACE[module][name]
            short = {one: worth for one, worth in arguments.items() if one not in defaults}
            self.assertEqual(function(**short), function(**{**short, **defaults}))

    def test_arguments_stay_as_they_are_and_lists_are_new(self):
        for _, _, function, arguments in functions():
            kept = copy.deepcopy(arguments)
            result = function(*arguments.values())
            self.assertEqual(repr(arguments), repr(kept))
            given = [id(one) for worth in arguments.values() for one in lists_in(worth)]
            rows = lists_in(result)
            self.assertEqual([one for one in rows if id(one) in given], [])
            before = told(result)
            for one in rows:
                one.append("more")
            self.assertEqual(told(function(*arguments.values())), before)

    def test_truths_are_truths(self):
        for module, name, function, arguments in functions():
            if name.startswith(("is_", "has_")) or name in ("takes", "holds", "alike", "accepts", "fits", "go_alike"):
                self.assertIs(type(function(*arguments.values())), bool, name)
                if "value" in arguments:
                    for value in VALUES:
                        self.assertIs(type(function(**{**arguments, "value": value})), bool, (name, value))

    def test_the_first_wrong_argument_counts(self):
        bad = {"world": (errors.InvalidWorld, ((),)), "other_world": (errors.InvalidWorld, None),
               "count": (errors.InvalidCount, -1), "program": (errors.InvalidProgram, ((),)),
               "code": (errors.InvalidCode, ()), "other_code": (errors.InvalidCode, None),
               "held": (errors.InvalidHeld, ()), "spot": (errors.InvalidSpot, ("scalar", "none")),
               "kind": (errors.InvalidKind, "none"), "root": (errors.InvalidRoot, ("field", -1))}
        seen = set()
        for module, name, function, arguments in functions():
            checked = [one for one in arguments if one in bad and (one != "kind" or module == "knowing")]
            for at, wrong in enumerate(checked):
                seen.add((name, wrong))
                values = [bad[one][1] if one in checked[at:] else worth for one, worth in arguments.items()]
                self.raises(bad[wrong][0], function, *values)
                self.raises(bad[wrong][0], function, **{**arguments, wrong: bad[wrong][1]})
        self.assertEqual(len(seen), 6 + 5 + 1 + 4 + 18 + 3 + 3 + 7 + 1 + 10 + 9 + 2)

    def test_unsound_codes_come_behind_invalid_ones(self):
        """Behind InvalidCode of both, ahead of the errors of all parameters that follow."""
        many = 0
        for module, name, function, arguments in functions():
            if "code" not in arguments or name in ("code_fault", "is_code_fault"):
                continue
            wrong = [BAD_CODE if one in ("code", "other_code") else None for one in arguments]
            self.raises(errors.UnsoundCode, function, *wrong)
            many += 1
            if "other_code" in arguments:
                self.raises(errors.UnsoundCode, function, *[CODE, BAD_CODE] + wrong[2:])
                self.raises(errors.InvalidCode, function, *[BAD_CODE, None] + wrong[2:])
        self.assertEqual(many, 2 + 7 + 2 + 3 + 4 + 1 + 5 + 4)

    def test_counts(self):
        for action in [walk, tick_places]:
            for count in [-1, True, False, None, "1", 1.0, (), [], Number(1), -10 ** 80]:
                self.raises(errors.InvalidCount, action, PROGRAM, WORLD, count)
            for value in [one for one in VALUES if one != ((), ())] + [Row(WORLD)]:
                self.raises(errors.InvalidWorld, action, PROGRAM, value, 1)
                self.raises(errors.InvalidProgram, action, value, WORLD, 1)

    def test_unsound_programs_come_last(self):
        fault, clash = program_of("{ break; x = 1; x[1] = 2 }"), program_of("{ f(x); x = 1 } function f(a) { a[1] }")
        self.assertTrue(kinds.clash_chain(clash))
        for action in [walk, tick_places]:
            for program in [fault, clash]:
                self.raises(errors.InvalidWorld, action, program, None, -1)
                self.raises(errors.InvalidCount, action, program, WORLD, -1)
            self.raises(errors.UnsoundProgram, action, fault, WORLD, 1)
            self.raises_with(errors.KindClash, "chain", kinds.clash_chain(clash), action, clash, WORLD, 1)
        for value in VALUES:
            if value != ((), ()):
                self.raises(errors.InvalidProgram, code_of, value)
        self.raises(errors.UnsoundProgram, code_of, fault)
        self.raises_with(errors.KindClash, "chain", kinds.clash_chain(clash), code_of, clash)


METHODS = {
    Bench: {"go": ["count"], "run": ["count"], "back": ["count"], "mark": ["place"], "unmark": ["place"],
            "more_main": ["index", "text", "whole"], "more_aside": ["kind", "name", "text", "whole"], "undo": [],
            "begin": [],
            "keep": [], "drop": [], "twin": [], "__len__": [], "__iter__": [], "__eq__": ["other"], "end": [],
            "told": [],
            "events": [], "held": [], "place": [], "value": ["name"], "entry": ["name", "key"], "output": ["kind",
            "name"],
            "watch": ["name"], "parts_from": ["other"], "__init__": ["program", "world"]},
    TiedBench: {"back": ["count"], "undo": [], "drop": []},
    Console: {"execute": ["command"], "__init__": []},
}


class TestClasses(Case):

    def test_methods(self):
        """Each method that is listed for a class is defined in it, with its arguments."""
        for made, methods in METHODS.items():
            for name, parameters in methods.items():
                self.assertEqual(list(inspect.signature(vars(made)[name]).parameters)[1:], parameters, name)
        for name in ["program", "world", "ticks", "marks", "deeds", "depth"]:
            self.assertIs(type(vars(Bench)[name]), property)

    def test_where_they_stand(self):
        for made, module in [(Bench, "bench"), (TiedBench, "bench"), (Console, "console")]:
            self.assertEqual(made.__module__, "patterndeeds." + module)
        self.assertEqual(TiedBench.__bases__, (Bench,))

    def test_by_name(self):
        bench = TiedBench(program=PROGRAM, world=WORLD)
        bench.go(count=2), bench.run(count=1), bench.back(count=1), bench.mark(place=1), bench.unmark(place=1)
        bench.more_main(index=0, text="", whole=False)
        self.assertEqual(bench.value(name="NF"), bench.value("NF"))
        self.assertEqual(bench.entry(name="n", key="a"), bench.entry("n", "a"))
        self.assertEqual(bench.output(kind="", name=""), bench.output("", ""))
        self.assertEqual(bench.watch(name="NR"), bench.watch("NR"))
        self.assertIsNone(bench.parts_from(other=bench))
        self.assertEqual(Console().execute(command="program"), "ok")


if __name__ == "__main__":
    unittest.main()
