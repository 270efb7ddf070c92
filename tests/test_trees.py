"""[9], [10]: which values are trees, their places and their depth."""

import unittest

from patterndeeds.errors import InvalidProgram
from patterndeeds.parser import expression_of, program_of
from patterndeeds.printer import program_text
from patterndeeds.trees import depth, is_expression, is_program, places
from helper import MANY, VALUES, Case, Number, Row, Text, exchanged, leaf_paths, part_at, random_of
from making import Trees

X = ("name", "x")
ONE = ("number", 1, 1)

EXPRESSIONS = [
    ONE, ("number", 0, 1), ("number", 25, 2), ("text", ""), ("text", "a\n\"\\"), ("pattern", ""), ("pattern", "a/b\\."),
    X, ("element", "n", (X,)), ("element", "n", (X, ONE)), ("field", X), ("field", ("minus", X)), ("set", X, ONE),
    ("set", ("field", X), ONE), ("set", ("element", "n", (X,)), ONE), ("choose", X, ONE, X), ("or", X, ONE),
    ("and", X, ONE),
    ("in", (X,), "n"), ("in", (X, ONE), "n"), ("match", X, ONE, True), ("match", X, ONE, False), ("join", X, ONE),
    ("not", X),
    ("minus", X), ("plus", X), ("call", "f", ()), ("call", "f", (X, ONE)), ("built", "length", ()),
    ("built", "close", (X, X)),
    ("getline", "main", None, None), ("getline", "main", None, X), ("getline", "<", X, None),
    ("getline", "|", ONE, ("field", X)),
] + [("change", sign, X, ONE) for sign in "+-*/@^"] + [("op", sign, X, ONE) for sign in "+-*/@^"] + [
    ("compare", sign, X, ONE) for sign in ["<", "<=", "==", "!=", ">", ">="]] + [
    ("step", X, by, before) for by in (1, -1) for before in (True, False)]

STATEMENTS = [
    ("expr", X), ("print", (), None), ("print", (X, ONE), (">", X)), ("printf", (X,), (">>", X)),
    ("printf", (X, X), ("|", X)),
    ("if", X, (), ()), ("if", X, (("next",),), (("break",),)), ("while", X, ()), ("do", (("next",), ("next",)), X),
    ("for", (), None, (), ()), ("for", (("expr", X),), X, (("expr", ONE),), (("next",),)),
    ("walk", "x", "n", (("next",),)),
    ("break",), ("continue",), ("next",), ("exit", None), ("exit", X), ("return", None), ("return", X),
    ("delete", "n", None),
    ("delete", "n", (X,)), ("delete", "n", (X, ONE)),
]

RULES = [
    ("begin", ()), ("end", (("next",),)), ("always", ()), ("when", X, None), ("when", X, ()), ("when", X, (("next",),)),
    ("range", X, ONE, None), ("range", X, ONE, ()), ("range", X, ONE, (("next",),)),
]

BAD_EXPRESSIONS = [
    ("number", 1), ("number", 2, 2), ("number", 0, 2), ("number", -1, 1), ("number", 1, -1), ("number", 1, 0),
    ("number", 1, 3),
    ("number", 1, 30), ("number", True, 1), ("number", 1, True), ("number", Number(1), 1), ("number", 1.0, 1),
    ("number", "1", 1),
    ("number", 1, 1, 1), ("number", None, None), ("text", None), ("text", "%"), ("text", Text("x")), ("text", ["a"]),
    ("text",),
    ("pattern", "\n"), ("pattern", "\\"), ("pattern", "\\/"), ("pattern", 1), ("name", "in"), ("name", "length"),
    ("name", ""),
    ("name", "1"), ("name", None), ("name", Text("x")), ("name", "x", ()), ("element", "n", ()), ("element", "n", X),
    ("element", "in", (X,)),
    ("element", "n", [X]), ("element", "n"), ("field", None), ("field",), ("set", ONE, X), ("set", ("not", X), X),
    ("set", X),
    ("set", ("call", "f", ()), X), ("set", X, ("expr", X)), ("change", "", X, X), ("change", "<", X, X),
    ("change", None, X, X),
    ("change", "+=", X, X), ("change", "+", ONE, X), ("change", X, ONE), ("step", ONE, 1, True), ("step", X, 0, True),
    ("step", X, 2, True), ("step", X, True, True), ("step", X, 1, 1), ("step", X, 1, None), ("step", X, "1", True),
    ("step", X, 1),
    ("step", X, Number(1), True), ("choose", X, X), ("or", X), ("or", X, X, X), ("in", (), "n"), ("in", X, "n"),
    ("in", (X,), X),
    ("in", (X,), "in"), ("in", [X], "n"), ("match", X, X), ("match", X, X, 1), ("match", X, X, None),
    ("compare", "=", X, X),
    ("compare", "~", X, X), ("compare", 1, X, X), ("compare", X, X), ("join", X, "x"), ("op", "<", X, X),
    ("op", "", X, X),
    ("op", ["+"], X, X), ("op", Text("+"), X, X), ("change", Text("+"), X, X), ("compare", Text("<"), X, X), ("not",),
    ("not", X, X), ("call", "f"), ("call", "length", ()), ("call", "f", X),
    ("call", "f", [X]),
    ("call", X, ()), ("call", "f", None), ("built", "f", ()), ("built", "length"), ("built", "length", None),
    ("built", "in", ()),
    ("getline", Text("main"), None, None), ("getline", Text("<"), X, None), ("set", (Text("name"), "x"), X),
    ("built", Text("length"), ()), ("getline", "main", X, None), ("getline", "<", None, None),
    ("getline", "|", None, X), ("getline", "", None, None),
    ("getline", None, None, None), ("getline", "main", None), ("getline", "<", X, ONE), ("getline", ">", X, None),
    ("getline", "main", None, ("minus", X)), ("unknown", X), ("", X), (None, X), (X,), ["name", "x"], Row(X),
    ("expr", X),
    ("begin", ()), ("group", X), ("print", (X,), None), ("break",),
]

BAD_STATEMENTS = [
    ("expr",), ("expr", None), ("expr", X, X), ("expr", ("expr", X)), ("print", X, None), ("print", (X,)),
    ("print", [X], None),
    ("print", (), ("<", X)), ("print", (), (">",)), ("print", (), (">", None)), ("print", (), [">", X]),
    ("print", (), ()),
    ("print", (), (">", X, X)), ("print", (), (1, X)), ("print", None, None), ("printf", (), None),
    ("printf", (), (">", X)),
    ("if", X, ()), ("if", X, (), None), ("if", X, None, ()), ("if", None, (), ()), ("if", X, (X,), ()),
    ("if", X, [], ()),
    ("if", X, ("break",), ()), ("while", X), ("while", X, None), ("while", None, ()), ("do", X, ()), ("do", None, X),
    ("do", (), None),
    ("for", (), (), (), ()), ("for", None, None, (), ()), ("for", (), None, None, ()), ("for", (), None, (), None),
    ("for", (("expr", X), ("expr", X)), None, (), ()), ("for", (("next",),), None, (), ()),
    ("for", (), None, (("exit", X),), ()),
    ("for", (X,), None, (), ()), ("for", ("expr", X), None, (), ()), ("walk", X, "n", ()), ("walk", "x", X, ()),
    ("walk", "x", "n", None),
    ("walk", "in", "n", ()), ("walk", "x", "n"), ("break", None), ("next", X), ("exit",), ("exit", ()), ("exit", (X,)),
    ("return",),
    ("return", "x"), ("delete", "n"), ("delete", "n", ()), ("delete", "n", X), ("delete", X, None),
    ("delete", "n", [X]), X, None, (), "x",
    ["break"], ("begin", ()), Row(("break",)),
]

BAD_RULES = [
    ("begin", None), ("begin",), ("end", X), ("always", None), ("always", [], ), ("when", X), ("when", None, ()),
    ("when", (X,), ()),
    ("range", X, None), ("range", X, None, ()), ("range", None, X, ()), ("range", X, X), ("range", X, X, X),
    ("begin", (X,)),
    ("begin", (("begin", ()),)), ("expr", X), X, (), None, ["begin", ()], ("BEGIN", ()), Row(("begin", ())),
]

BAD_FUNCTIONS = [
    ("f", ()), ("f", None, ()), ("f", (), None), ("f", ("x",), (X,)), ("f", ["x"], ()), ("f", (X,), ()),
    ("f", ("in",), ()), ("in", (), ()),
    (X, (), ()), ("f", "x", ()), ("f", (), [],), ("length", (), ()), ("f", (), (), ()), ["f", (), ()], None, X,
    Row(("f", (), ())),
    ("f", (Text("x"),), ()),
]


def in_rule(statement):
    return ((("always", (statement,)),), ())


class TestKinds(Case):

    def test_expressions(self):
        for tree in EXPRESSIONS:
            self.assertIs(is_expression(tree), True, tree)
            self.assertIs(is_program(in_rule(("expr", tree))), True, tree)
            self.assertIs(is_program(tree), False)
        for tree in BAD_EXPRESSIONS:
            self.assertIs(is_expression(tree), False, tree)
            self.assertIs(is_program(in_rule(("expr", tree))), False, tree)

    def test_statements(self):
        for tree in STATEMENTS:
            self.assertIs(is_program(in_rule(tree)), True, tree)
            self.assertIs(is_program(((), (("f", (), (("while", X, (tree,)),)),))), True, tree)
            self.assertIs(is_expression(tree), False)
        for tree in BAD_STATEMENTS:
            self.assertIs(is_program(in_rule(tree)), False, tree)
            self.assertIs(is_program(((), (("f", (), (("while", X, (tree,)),)),))), False, tree)

    def test_rules(self):
        self.assertIs(is_program(((), ())), True)
        self.assertIs(is_program((tuple(RULES), ())), True)
        for tree in RULES:
            self.assertIs(is_program(((tree,), ())), True, tree)
            self.assertIs(is_expression(tree), False)
            self.assertIs(is_program(in_rule(tree)), False)
        for tree in BAD_RULES:
            self.assertIs(is_program(((tree,), ())), False, tree)

    def test_functions(self):
        for function in [("f", (), ()), ("f", ("x",), ()), ("f", ("x", "x", "NR", "f"), (("next",),)), ("NR", (), ())]:
            self.assertIs(is_program(((), (function, function))), True, function)
            self.assertIs(is_program(((function,), ())), False)
        for function in BAD_FUNCTIONS:
            self.assertIs(is_program(((), (function,))), False, function)

    def test_any_value(self):
        for value in VALUES:
            self.assertIs(is_expression(value), value == ("name", "x") and type(value) is tuple, value)
            self.assertIs(is_program(value), type(value) is tuple and value == ((), ()), value)
            for tree in [("field", value), ("set", X, value), ("call", "f", (value,)), ("element", "n", value),
                    ("getline", value, X, None)]:
                self.assertIs(is_expression(tree), False, tree)
        for value in [((), (), ()), ((),), [(), ()], ([], ()), ((), []), Row(((), ())), (None, ()), ((), None),
                (Row(), ())]:
            self.assertIs(is_program(value), False, value)

    def test_values_at_the_limits(self):
        deep = X
        wide = tuple([X] * 2900)
        nested = ()
        for _ in range(63):
            deep = ("minus", deep)
            nested = (nested,)
        self.assertIs(is_expression(deep), True)
        self.assertIs(is_expression(nested), False)
        self.assertIs(is_program(nested), False)
        self.assertIs(is_expression(("call", "f", wide)), True)
        self.assertIs(is_expression(("call", "f", wide + (0,))), False)
        self.assertIs(is_program(((("always", tuple([("next",)] * 2900)),), ())), True)
        self.assertIs(is_expression(("number", 10 ** 90 - 1, 1)), False)
        self.assertIs(is_expression(("number", 1, 10 ** 89)), False)
        self.assertIs(is_expression(("number", -10 ** 89, 10 ** 89)), False)

    def test_one_part_exchanged(self):
        rnd = random_of("exchanged")
        for tree in EXPRESSIONS + [in_rule(one) for one in STATEMENTS] + [((one,), ()) for one in RULES]:
            self.exchange(tree, rnd)
        trees = Trees(rnd)
        for _ in range(30 * MANY):
            self.exchange(trees.program(5), rnd)
            self.exchange(trees.expression(4), rnd)

    def exchange(self, tree, rnd):
        """Exchanges parts by values that stand nowhere in trees, and by such that may."""
        paths = leaf_paths(tree)
        for path in paths if len(paths) < 20 else rnd.sample(paths, 20):
            for value in [[], 2.5, {}, DeprecationWarning("x"), (None,), ("un known",), "%", -2]:
                bad = exchanged(tree, path, value)
                self.assertIs(is_program(bad) or is_expression(bad), False, (tree, path, value))
            other = exchanged(tree, path, part_at(tree, rnd.choice(paths)))
            for test in [is_program, is_expression]:
                self.assertIn(test(other), (True, False))
            if is_program(other):
                self.assertIn(depth(other), range(50))
                self.assertEqual(len(places(other)) > 0, True)


class TestNumbers(Case):

    def test_edges(self):
        good = [(0, 1), (1, 1), (10 ** 60 - 1, 1), (1, 2), (1, 5), (1, 10), (3, 20), (1, 2 ** 60), (1, 10 ** 60),
                (10 ** 60 - 1, 10 ** 60), (10 ** 60 - 1, 10 ** 59), (10 ** 60 - 1, 10), (10 ** 59, 1), (1, 5 ** 60),
                (999, 1000)]
        bad = [(10 ** 60, 1), (1, 2 ** 61), (1, 5 ** 61), (1, 10 ** 61), (10 ** 60 + 1, 10), (10 ** 60 + 1, 10 ** 60),
                (1, 3), (1, 7),
               (1, 6), (1, 2 ** 10 * 11), (2, 4), (10, 10), (0, 5), (5, 0), (0, 0), (-1, 2), (1, -2), (-1, 1), (0, -1),
               (10 ** 89 + 1, 10 ** 60), (10 ** 90 - 1, 1), (1, 10 ** 90 - 1)]
        for top, bottom in good:
            self.assertIs(is_expression(("number", top, bottom)), True, (top, bottom))
        for top, bottom in bad:
            self.assertIs(is_expression(("number", top, bottom)), False, (top, bottom))

    def test_numbers_of_sources(self):
        for text in ["0", "000", ".0", "1.50", "9" * 60, "." + "9" * 60, "." + "0" * 59 + "1",
                "9" * 30 + "." + "9" * 30]:
            tree = expression_of(text)
            self.assertIs(is_expression(tree), True)
            self.assertEqual(tree[1] * 10 ** 60, int(text.replace(".",
                    "") + "0" * (60 - len(text.partition(".")[2]))) * tree[2])
        self.assertEqual(expression_of("007.500"), ("number", 15, 2))
        self.assertEqual(expression_of("0.0"), ("number", 0, 1))


class TestPlaces(Case):

    def test_order(self):
        program = program_of("x { a; if (b) c; else { d; e } } BEGIN { for (f; g; h) i } function z() { do j; "
                             "while (k) } END { }"
                             " function y() { for (l in m) while (n) o } p, q")
        found = [tree if tree is None else tree[0] for tree in places(program)]
        self.assertEqual(found, [None, "when", "expr", "if", "expr", "expr", "expr", "begin", "for", "expr", "expr",
                "expr", "end",
                                 "range", "do", "expr", "walk", "while", "expr"])
        names = [tree[1][1] for tree in places(program) if tree is not None and tree[0] == "expr"]
        self.assertEqual(names, list("acdefhijo"))

    def test_each_kind(self):
        self.assertEqual(places(((), ())), [None])
        for statement in STATEMENTS:
            program = in_rule(statement)
            inner = [part for row in statement if type(row) is tuple for part in row
                     if type(part) is tuple and part[0] in ("next", "break", "expr")]
            self.assertEqual(places(program), [None, program[0][0], statement] + inner)
            in_function = ((), (("f", (), (statement,)),))
            self.assertEqual(places(in_function), [None, statement] + inner)
        for rule in RULES:
            body = rule[-1] or ()
            self.assertEqual(places(((rule, rule), ())), [None] + ([rule] + list(body)) * 2)

    def test_random_programs(self):
        rnd = random_of("places")
        trees = Trees(rnd)
        for _ in range(100 * MANY):
            program = trees.program(5)
            rows = [None]
            for rule in program[0]:
                rows.append(rule)
                rows.extend(below(rule[-1] or ()))
            for function in program[1]:
                rows.extend(below(function[2]))
            self.assertEqual(places(program), rows)
            self.assertEqual(depth(program), max([0] + [deep(one) for one in program[0] + program[1]]))

    def test_new_list(self):
        program = in_rule(X and ("expr", X))
        places(program).append(1)
        self.assertEqual(len(places(program)), 3)

    def test_errors(self):
        for value in VALUES + BAD_RULES + [X, (("x",), ())]:
            if type(value) is not tuple or value != ((), ()):
                self.raises(InvalidProgram, places, value)
                self.raises(InvalidProgram, depth, value)
                self.raises(InvalidProgram, places, program=value)


def below(body):
    """The statements of a body and those in them, told apart from expressions by hand."""
    rows = []
    for statement in body:
        rows.append(statement)
        tag = statement[0]
        if tag == "if":
            rows += below(statement[2]) + below(statement[3])
        elif tag == "do":
            rows += below(statement[1])
        elif tag == "while":
            rows += below(statement[2])
        elif tag == "walk":
            rows += below(statement[3])
        elif tag == "for":
            rows += below(statement[1]) + below(statement[3]) + below(statement[4])
    return rows


TAGS = {tree[0] for tree in EXPRESSIONS + STATEMENTS + RULES}


def deep(tree):
    """The depth, by looking for all tuples in a tree that are trees."""
    inner = 0
    waiting = list(tree) if tree[0] in TAGS else list(tree[1:])
    while waiting:
        part = waiting.pop()
        if type(part) is tuple and part and part[0] in TAGS and len(part) > 1 and part[0] not in ("next", "break"):
            inner = max(inner, deep(part))
        elif type(part) is tuple and len(part) == 1 and part[0] in TAGS:
            inner = max(inner, 1)
        elif type(part) is tuple:
            waiting.extend(part)
    return inner + 1


class TestDepth(Case):

    def test_each_expression(self):
        two = ["number", "text", "pattern", "name"]
        for tree in EXPRESSIONS:
            none = tree in [("call", "f", ()), ("built", "length", ()), ("getline", "main", None, None)]
            many = 1 if tree[0] in two or none else 3 if "field" in repr(tree[1:]) or "element" in repr(tree[1:]) else 2
            if tree == ("field", ("minus", X)):
                many = 3
            self.assertEqual(depth(((("when", tree, None),), ())), many + 1, tree)

    def test_each_statement(self):
        for source, many in [("x", 2), ("print", 1), ("print x", 2), ("print > x", 2), ("print f(x) > x", 3),
                ("print x > f(x)", 3),
                             ("if (x) ;", 2), ("if (x) ; else next", 2), ("if (x) ; else x", 3), ("if (x) x", 3),
                             ("while (x) ;", 2),
                             ("while (x) x", 3), ("while (!x) ;", 3), ("do ; while (x)", 2), ("do x; while (x)", 3),
                             ("for (;;) ;", 1),
                             ("for (x;;) ;", 3), ("for (;x;) ;", 2), ("for (;;x) ;", 3), ("for (;;) x", 3),
                             ("for (x in y) ;", 1),
                             ("for (x in y) x", 3), ("break", 1), ("exit", 1), ("exit x", 2), ("return -x", 3),
                             ("delete x", 1),
                             ("delete x[1]", 2), ("delete x[1, y[2]]", 3), ("x[1] = 2", 4), ("(x, -y) in z", 4),
                             ("f(1, $x)", 4)]:
            self.assertEqual(depth(program_of("{" + source + "}")), many + 1, source)
            self.assertEqual(depth(program_of("function f(a, b) {" + source + "}")), many + 1, source)

    def test_programs(self):
        self.assertEqual(depth(((), ())), 0)
        self.assertEqual(depth(program_of("BEGIN { }")), 1)
        self.assertEqual(depth(program_of("function f() { }")), 1)
        self.assertEqual(depth(program_of("function f() { -x } x")), 4)
        self.assertEqual(depth(program_of("function f() { } --x")), 3)
        self.assertEqual(depth(program_of("x, !!y")), 4)
        self.assertEqual(depth(program_of("x { } y, z { if (a) { b } }")), 4)
        self.assertEqual(depth(program_of("function f() { -x }")),
                depth(program_of(program_text(program_of("function f() { -x }")))))


if __name__ == "__main__":
    unittest.main()
