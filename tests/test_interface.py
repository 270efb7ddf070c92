"""[2], [3], [4]: the interface of values, patterns, records and runs, and what holds for all of it."""

import copy
import importlib
import inspect
import unittest

from patterndeeds import errors, kinds
from patterndeeds.acceptors import whole_acceptor
from patterndeeds.codes import code_of
from patterndeeds.parser import program_of
from patterndeeds.patterns import read_pattern
from patterndeeds.walker import tick_places, walk
from helper import VALUES, Case, Number, Row

P, Q = read_pattern("a(b|.)*"), read_pattern("^a|b+")
ONE, TWO = ("number", 7, 2), ("seen", "12x")
WORLD = ((("f", "a b\n", False),), (("<", "g", "x", True),))
PROGRAM = program_of("$1 { n[$1]++; f(n) } function f(a) { a[1] = 2 }")
# For each function of each module its parameters, each with an argument.
INTERFACE = {
    "values": {
        "is_value": {"value": ONE}, "has_number_form": {"text": " 1"}, "is_like_number": {"one": ONE},
        "is_true": {"one": TWO}, "number_of": {"one": TWO}, "text_of": {"one": ONE},
        "compared": {"one": ONE, "other": TWO}, "operated": {"operator": "+", "one": ONE, "other": TWO},
        "as_number": {"one": TWO}, "minus": {"one": ONE}, "whole": {"one": ONE},
        "put_together": {"one": ONE, "other": TWO}, "round_of": {"values": [ONE, TWO]}},
    "formats": {
        "read_format": {"text": "@5d!"}, "written_format": {"pieces": [("plain", "a")]},
        "is_format": {"value": [("plain", "a")]},
        "directive_text": {"piece": ("directive", False, False, 0, None, "d"), "one": ONE},
        "formatted": {"text": "@d", "values": [ONE]}},
    "patterns": {
        "read_pattern": {"text": "a|b"}, "ending": {"text": "(a"}, "written_pattern": {"pattern": P},
        "is_pattern": {"value": P}, "size": {"pattern": P}, "turned": {"pattern": P}},
    "matching": {
        "takes": {"pattern": P, "text": "xab", "start": 1, "end": 3}, "holds": {"pattern": P, "text": "xab"},
        "longest": {"pattern": P, "text": "xab", "start": 1}, "found": {"pattern": P, "text": "xab", "start": 0},
        "stretches": {"pattern": P, "text": "xab"}, "cuts": {"pattern": P, "text": "xab"},
        "derivation": {"pattern": P, "text": "xab", "start": 1, "end": 3},
        "is_derivation": {"pattern": P, "text": "xab", "start": 1, "end": 3, "value": ("one",)},
        "put_in": {"new": "&", "taken": "a"}, "replaced": {"pattern": P, "new": "-", "text": "xab", "every": True}},
    "texts": {
        "built": {"name": "index", "values": [ONE, TWO]}, "pattern_of": {"one": TWO},
        "match_places": {"pattern": P, "text": "xab"}},
    "acceptors": {
        "whole_acceptor": {"pattern": P}, "holding_acceptor": {"pattern": P}, "is_least": {"value": None},
        "state_after": {"acceptor": whole_acceptor(P), "text": "ab"},
        "accepts": {"acceptor": whole_acceptor(P), "text": "ab"},
        "parting_end": {"acceptor": whole_acceptor(P), "state": 0, "other_state": 1},
        "alike": {"pattern": P, "other_pattern": Q}, "parting": {"pattern": P, "other_pattern": Q},
        "is_parting": {"pattern": P, "other_pattern": Q, "value": ("b", 0, 1)},
        "within": {"pattern": P, "other_pattern": Q}, "count_whole": {"pattern": P, "length": 3},
        "nth_whole": {"pattern": P, "number": 5}, "number_whole": {"pattern": P, "text": "ab"},
        "fitting": {"patterns": [P], "others": [Q]}, "groups": {"patterns": [P, Q]}},
    "records": {
        "field_separator": {"text": ","}, "record_separator": {"text": ""},
        "parted": {"text": "a,b", "separator": ("sign", ","), "paragraphs": False},
        "gaps": {"text": "a,b", "separator": ("sign", ","), "paragraphs": False},
        "joined": {"fields": ["a", "b"], "joint": "-"},
        "unkept": {"pattern": P, "joint": ",", "separator": ("sign", ",")},
        "record_of": {"text": "a b", "field_text": " ", "record_text": "\n"}, "field_number": {"one": ONE},
        "field_value": {"record": ("a b", ("a", "b")), "number": 1},
        "with_field": {"record": ("a b", ("a", "b")), "number": 1, "text": "c", "joint": "-"},
        "with_count": {"record": ("a b", ("a", "b")), "number": 1, "joint": "-"},
        "next_record": {"text": "a\nb", "at": 0, "whole": False, "separator": ("sign", "\n")},
        "record_texts": {"text": "a\nb", "separator": ("paragraphs",)},
        "unsettled": {"text": "a\nb", "separator": ("pattern", P)}},
    "worlds": {
        "is_world": {"value": WORLD}, "has_more": {"world": WORLD, "other_world": WORLD},
        "with_main": {"world": WORLD, "index": 0, "text": "c", "whole": True},
        "with_aside": {"world": WORLD, "kind": "|", "name": "h", "text": "c", "whole": True},
        "cut_world": {"world": WORLD, "numbers": [1]}},
    "walker": {
        "walk": {"program": PROGRAM, "world": WORLD, "count": 9},
        "tick_places": {"program": PROGRAM, "world": WORLD, "count": 9}},
    "codes": {"is_code": {"value": None}, "code_of": {"program": PROGRAM}},
}
DEFAULTS = {("matching", "found"): {"start": 0}, ("records", "parted"): {"paragraphs": False},
            ("records", "gaps"): {"paragraphs": False}}


def functions():
    """The module, the name, the function and its arguments, for each function."""
    for module, table in INTERFACE.items():
        for name, arguments in table.items():
            yield module, name, getattr(importlib.import_module("patterndeeds." + module), name), arguments


def lists_in(value):
    """All lists in a value."""
    rows = [value] if type(value) is list else []
    if type(value) in (list, tuple):
        for part in value:
            rows.extend(lists_in(part))
    return rows


class TestInterface(Case):

    def test_names_and_arguments(self):
        for module, name, function, arguments in functions():
            self.assertTrue(inspect.isfunction(function))
            self.assertEqual((function.__module__, function.__name__), ("patterndeeds." + module, name))
            parameters = inspect.signature(function).parameters
            self.assertEqual(list(parameters), list(arguments))
            defaults = {one.name: one.default for one in parameters.values() if one.default is not one.empty}
            self.assertEqual(defaults, DEFAULTS.get((module, name), {}))

    def test_by_position_and_by_name(self):
        for _, _, function, arguments in functions():
            result = function(*arguments.values())
            self.assertEqual(repr(function(**arguments)), repr(result))
            self.assertEqual(repr(function(*arguments.values())), repr(result))

    def test_defaults(self):
        for (module, name), defaults in DEFAULTS.items():
            function = getattr(importlib.import_module("patterndeeds." + module), name)
            arguments = INTERFACE[module][name]
            short = {one: worth for one, worth in arguments.items() if one not in defaults}
            self.assertEqual(function(**short), function(**{**short, **defaults}))

    def test_arguments_stay_as_they_are_and_lists_are_new(self):
        for _, _, function, arguments in functions():
            kept = copy.deepcopy(arguments)
            result = function(*arguments.values())
            self.assertEqual(repr(arguments), repr(kept))
            given = [id(one) for worth in arguments.values() for one in lists_in(worth)]
            rows = lists_in(result)
            self.assertEqual([one for one in rows if id(one) in given], [])
            before = repr(result)
            for one in rows:
                one.append("more")
            self.assertEqual(repr(function(*arguments.values())), before)

    def test_truths_are_truths(self):
        for module, name, function, arguments in functions():
            if name.startswith(("is_", "has_")) or name in ("takes", "holds", "alike", "accepts"):
                self.assertIs(type(function(*arguments.values())), bool, name)
                if "value" in arguments:
                    for value in VALUES:
                        self.assertIs(type(function(**{**arguments, "value": value})), bool, (name, value))

    def test_the_first_wrong_argument_counts(self):
        bad = {"world": (errors.InvalidWorld, ((),)), "other_world": (errors.InvalidWorld, None),
               "count": (errors.InvalidCount, -1), "program": (errors.InvalidProgram, ((),))}
        seen = set()
        for _, name, function, arguments in functions():
            checked = [one for one in arguments if one in bad]
            for at, wrong in enumerate(checked):
                seen.add((name, wrong))
                values = [bad[one][1] if one in checked[at:] else worth for one, worth in arguments.items()]
                self.raises(bad[wrong][0], function, *values)
                self.raises(bad[wrong][0], function, **{**arguments, wrong: bad[wrong][1]})
        self.assertEqual(len(seen), 6 + 5 + 1)

    def test_counts(self):
        for action in [walk, tick_places]:
            for count in [-1, True, False, None, "1", 1.0, (), [], Number(1), -10 ** 80]:
                self.raises(errors.InvalidCount, action, PROGRAM, WORLD, count)
            for value in [one for one in VALUES if one != ((), ())] + [Row(WORLD)]:
                self.raises(errors.InvalidWorld, action, PROGRAM, value, 1)
                self.raises(errors.InvalidProgram, action, value, WORLD, 1)

    def test_unsound_programs_come_last(self):
        fault, clash = program_of("{ break; x = 1; x[1] = 2 }"), program_of("{ f(x); x = 1 } function f(a) { a[1] }")
        self.assertTrue(kinds.clash_chain(clash))
        for action in [walk, tick_places]:
            for program in [fault, clash]:
                self.raises(errors.InvalidWorld, action, program, None, -1)
                self.raises(errors.InvalidCount, action, program, WORLD, -1)
            self.raises(errors.UnsoundProgram, action, fault, WORLD, 1)
            self.raises_with(errors.KindClash, "chain", kinds.clash_chain(clash), action, clash, WORLD, 1)
        for value in VALUES:
            if value != ((), ()):
                self.raises(errors.InvalidProgram, code_of, value)
        self.raises(errors.UnsoundProgram, code_of, fault)
        self.raises_with(errors.KindClash, "chain", kinds.clash_chain(clash), code_of, clash)


if __name__ == "__main__":
    unittest.main()
