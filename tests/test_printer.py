"""[12] and the facts B2, B3: the printed text."""

import unittest

from patterndeeds.errors import InvalidExpression, InvalidProgram, InvalidWord, NoProgram, TooLarge
from patterndeeds.parser import expression_of, program_of
from patterndeeds.printer import expression_text, program_text
from patterndeeds.words import spots_of, words_of
from helper import MANY, VALUES, Case, random_of
from making import Trees

X, Y, Z = ("name", "x"), ("name", "y"), ("name", "z")
ONE = ("number", 1, 1)
A = ("pattern", "a")
JOIN = ("join", X, Y)
MORE = ("compare", ">", X, Y)
LESS = ("compare", "<", X, Y)
PIPED = ("getline", "|", X, None)
READ = ("getline", "main", None, None)
FILE = ("getline", "<", X, None)


def text_of(statement):
    """The rows of a statement in a rule."""
    text = program_text(((("always", (statement,)),), ()))
    assert text.startswith("{\n") and text.endswith("}\n")
    return text[2:-2]


class TestRows(Case):

    def test_statements(self):
        body = (("next",), ("while", X, (("break",),)))
        rows = "    next\n    while (x) {\n      break\n    }\n"
        for statement, text in [
                (("expr", JOIN), "  x y\n"), (("print", (), None), "  print\n"),
                (("print", (X, JOIN), None), "  print x, x y\n"), (("print", (), (">", JOIN)), "  print > x y\n"),
                (("print", (X,), (">>", Y)), "  print x >> y\n"), (("print", (X,), ("|", Y)), "  print x | y\n"),
                (("printf", (X, Y), ("|", Z)), "  printf x, y | z\n"), (("printf", (X,), None), "  printf x\n"),
                (("if", X, body, ()), "  if (x) {\n" + rows + "  }\n"), (("if", X, (), ()), "  if (x) {\n  }\n"),
                (("if", X, (), (("next",),)), "  if (x) {\n  } else {\n    next\n  }\n"),
                (("if", X, (("next",),), body), "  if (x) {\n    next\n  } else {\n" + rows + "  }\n"),
                (("while", JOIN, body), "  while (x y) {\n" + rows + "  }\n"),
                (("while", X, ()), "  while (x) {\n  }\n"),
                (("do", body, X), "  do {\n" + rows + "  } while (x)\n"), (("do", (), X), "  do {\n  } while (x)\n"),
                (("for", (), None, (), ()), "  for (; ; ) {\n  }\n"),
                (("for", (("expr", X),), Y, (("expr", Z),), body), "  for (x; y; z) {\n" + rows + "  }\n"),
                (("for", (("expr", X),), None, (), ()), "  for (x; ; ) {\n  }\n"),
                (("for", (), X, (), ()), "  for (; x; ) {\n  }\n"), (("for", (), None, (("expr", X),), ()),
                "  for (; ; x) {\n  }\n"), (("walk", "k", "a", body), "  for (k in a) {\n" + rows + "  }\n"),
                (("break",), "  break\n"), (("continue",), "  continue\n"), (("next",), "  next\n"),
                (("exit", None), "  exit\n"), (("exit", X), "  exit x\n"), (("return", None), "  return\n"),
                (("return", ("not", X)), "  return !x\n"), (("delete", "a", None), "  delete a\n"),
                (("delete", "a", (X,)), "  delete a[x]\n"), (("delete", "a", (X, JOIN)), "  delete a[x, x y]\n"),
                (("print", (MORE,), None), "  print (x > y)\n"), (("exit", MORE), "  exit x > y\n"),
                (("if", PIPED, (), ()), "  if (x | getline) {\n  }\n")]:
            self.assertEqual(text_of(statement), text)

    def test_rules_and_functions(self):
        body = (("next",),)
        for program, text in [
                (((), ()), ""), (((("begin", ()),), ()), "BEGIN {\n}\n"),
                (((("end", body),), ()), "END {\n  next\n}\n"), (((("always", body),), ()), "{\n  next\n}\n"),
                (((("when", MORE, None),), ()), "x > y\n"), (((("when", X, body),), ()), "x {\n  next\n}\n"),
                (((("when", X, ()),), ()), "x {\n}\n"), (((("range", X, Y, None),), ()), "x, y\n"),
                (((("range", X, JOIN, body),), ()), "x, x y {\n  next\n}\n"),
                (((), (("f", (), ()),)), "function f() {\n}\n"), (((), (("f", ("a", "b"), body),)),
                "function f(a, b) {\n  next\n}\n"),
                (((("begin", ()), ("when", X, None), ("always", ())), (("f", ("a",), ()), ("g", (), ()))),
                "BEGIN {\n}\nx\n{\n}\nfunction f(a) {\n}\nfunction g() {\n}\n")]:
            self.assertEqual(program_text(program), text)
            self.assertEqual(program_text(program=program), text)

    def test_functions_come_last(self):
        self.assertEqual(program_text(program_of("function f() { } x; function g() { } y")),
                "x\ny\nfunction f() {\n}\nfunction g() {\n}\n")


class TestExpressions(Case):

    def test_signs(self):
        for tree, text in [
                (X, "x"), (("element", "n", (X,)), "n[x]"), (("element", "n", (X, JOIN)), "n[x, x y]"),
                (("field", X), "$x"), (("field", ("field", ONE)), "$$1"), (("set", X, Y), "x = y"),
                (("set", ("field", X), ("set", Y, Z)), "$x = y = z"), (("step", X, 1, True), "++x"),
                (("step", X, -1, True), "--x"), (("step", X, 1, False), "x++"),
                (("step", ("field", X), -1, False), "$x--"),
                (("choose", X, Y, Z), "x ? y : z"), (("or", X, Y), "x || y"), (("and", X, Y), "x && y"),
                (("in", (X,), "n"), "x in n"), (("in", (X, JOIN), "n"), "(x, x y) in n"),
                (("match", X, A, False), "x ~ /a/"),
                (("match", X, A, True), "x !~ /a/"), (JOIN, "x y"), (("not", X), "!x"), (("minus", X), "-x"),
                (("plus", X), "+x"), (("call", "f", ()), "f()"), (("call", "f", (X, JOIN)), "f(x, x y)"),
                (("built", "length", ()), "length()"), (("built", "length", (X,)), "length(x)"),
                (("built", "substr", (X, Y)), "substr(x, y)"), (READ, "getline"),
                (("getline", "main", None, X), "getline x"), (FILE, "getline < x"),
                (("getline", "<", X, Y), "getline y < x"), (PIPED, "x | getline"),
                (("getline", "|", X, ("element", "n", (Y,))), "x | getline n[y]"),
                (("text", "a\"\\\n\t/"), "\"a\\\"\\\\\\n\t/\""), (("pattern", "a/b\\.\"\\\\"), "/a\\/b\\.\"\\\\/"),
                (("minus", ("minus", X)), "- -x"), (("minus", ("step", X, -1, True)), "- --x"),
                (("minus", ("step", X, 1, True)), "-++x"), (("minus", ("plus", X)), "-+x"),
                (("plus", ("plus", X)), "+ +x"), (("plus", ("step", X, 1, True)), "+ ++x"),
                (("plus", ("minus", X)), "+-x"), (("not", ("not", X)), "!!x"), (("not", ("minus", X)), "!-x"),
                (("minus", ("not", X)), "-!x"), (("minus", ("op", "^", ("step", X, -1, True), Y)), "- --x ^ y"),
                (("minus", ("op", "^", X, Y)), "-x ^ y"),
                (("plus", ("op", "^", ("step", X, 1, True), Y)), "+ ++x ^ y"),
                (("minus", ("op", "^", ("minus", X), Y)), "-(-x) ^ y"),
                (("minus", ("op", "-", ("minus", X), Y)), "-(-x - y)"), (("minus", ("step", X, -1, False)), "-x--"),
                (("op", "-", X, ("minus", Y)), "x - -y"), (("op", "+", X, ("step", Y, 1, True)), "x + ++y"),
                (("minus", ("join", ("minus", X), Y)), "-(-x y)")]:
            self.assertEqual(expression_text(tree), text)
            self.assertEqual(expression_text(expression=tree), text)
        for sign in "+-*/@^":
            self.assertEqual(expression_text(("change", sign, X, Y)), "x " + sign + "= y")
            self.assertEqual(expression_text(("op", sign, X, Y)), "x " + sign + " y")
        for sign in ["<", "<=", "==", "!=", ">", ">="]:
            self.assertEqual(expression_text(("compare", sign, X, Y)), "x " + sign + " y")

    def test_numbers(self):
        for top, bottom, text in [(0, 1, "0"), (1, 1, "1"), (120, 1, "120"), (1, 2, ".5"), (3, 2, "1.5"),
                (1, 20, ".05"), (1001, 1000, "1.001"), (25, 2, "12.5"), (1, 10 ** 60, "." + "0" * 59 + "1"),
                                  (10 ** 60 - 1, 1, "9" * 60), (10 ** 60 - 1, 10 ** 30, "9" * 30 + "." + "9" * 30),
                                  (1, 2 ** 60, "." + str(5 ** 60).zfill(60)), (10 ** 59, 1, "1" + "0" * 59),
                                  (101, 10, "10.1")]:
            self.assertEqual(expression_text(("number", top, bottom)), text)
            self.assertEqual(expression_of(text), ("number", top, bottom))
        for text, short in [("00.50", ".5"), ("007", "7"), ("7.", "7"), ("0.0", "0"), (".0", "0"), ("10.10", "10.1"),
                ("00", "0"), ("0.05", ".05")]:
            self.assertEqual(expression_text(expression_of(text)), short)


# For each row: a maker of trees from a part, the text with a hole, parts without brackets, parts with.
SAMPLES = [
    (("set", X, Y), "x = y"), (("choose", X, Y, Z), "x ? y : z"), (("or", X, Y), "x || y"), (("and", X, Y), "x && y"),
    (("in", (X,), "n"), "x in n"), (("match", X, Y, False), "x ~ y"), (("compare", "==", X, Y), "x == y"),
    (READ, "getline"), (FILE, "getline < x"), (PIPED, "x | getline"), (JOIN, "x y"), (("op", "+", X, Y), "x + y"),
    (("op", "*", X, Y), "x * y"), (("not", X), "!x"), (("op", "^", X, Y), "x ^ y"), (("step", X, 1, False), "x++"),
    (("step", X, 1, True), "++x"), (("call", "f", ()), "f()"), (X, "x"),
]
LEVELS = ["E", "T", "O", "A", "I", "M", "C", "P main", "P file", "P pipe", "J", "S", "X", "U", "W", "Q", "F", "D",
        "target"]
PLACES = [
    (lambda e: ("set", X, e), "x = ?", "E"), (lambda e: ("change", "+", X, e), "x += ?", "E"),
    (lambda e: ("choose", e, Y, Z), "? ? y : z", "O"), (lambda e: ("choose", X, e, Z), "x ? ? : z", "E"),
    (lambda e: ("choose", X, Y, e), "x ? y : ?", "T"), (lambda e: ("or", e, X), "? || x", "O"),
    (lambda e: ("or", X, e), "x || ?", "A"), (lambda e: ("and", e, X), "? && x", "A"),
    (lambda e: ("and", X, e), "x && ?", "I"),
    (lambda e: ("in", (e,), "n"), "? in n", "I"), (lambda e: ("in", (e, X), "n"), "(?, x) in n", "E"),
    (lambda e: ("in", (X, e), "n"), "(x, ?) in n", "E"), (lambda e: ("match", e, X, True), "? !~ x", "C"),
    (lambda e: ("match", X, e, False), "x ~ ?", "C"),
    (lambda e: ("compare", "==", e, X), "? == x", "P main"), (lambda e: ("compare", ">", X, e), "x > ?", "P main"),
    (lambda e: ("compare", "<", e, X), "? < x", "P file"), (lambda e: ("compare", "<", X, e), "x < ?", "P main"),
    (lambda e: ("getline", "|", e, None), "? | getline", "P pipe"), (lambda e: ("getline", "<", e, None),
    "getline < ?", "D"), (lambda e: ("getline", "<", e, X), "getline x < ?", "D"),
    (lambda e: ("join", e, X), "? x", "J"),
    (lambda e: ("op", "+", e, X), "? + x", "S"), (lambda e: ("op", "-", X, e), "x - ?", "X"),
    (lambda e: ("op", "*", e, X), "? * x", "X"), (lambda e: ("op", "/", X, e), "x / ?", "U"),
    (lambda e: ("op", "@", e, X), "? @ x", "X"),
    (lambda e: ("op", "^", e, X), "? ^ x", "Q"), (lambda e: ("op", "^", X, e), "x ^ ?", "U"),
    (lambda e: ("not", e), "!?", "U"), (lambda e: ("minus", e), "-?", "U"), (lambda e: ("field", e), "$?", "F"),
    (lambda e: ("field", ("field", e)), "$$?", "F"),
    (lambda e: ("call", "f", (e, X)), "f(?, x)", "E"), (lambda e: ("built", "int", (e,)), "int(?)", "E"),
    (lambda e: ("element", "n", (e,)), "n[?]", "E"), (lambda e: ("set", ("element", "n", (X, e)), Y), "n[x, ?] = y",
    "E"),
]


class TestBrackets(Case):

    def test_first_reason(self):
        """Each kind of part at each kind of place."""
        for make, hole, level in PLACES:
            for at, (part, text) in enumerate(SAMPLES):
                lower = at < LEVELS.index(level)
                want = hole.replace("?", "\x00", 1) if hole[0] == "?" else hole
                mark = "\x00" if hole[0] == "?" else "?"
                if hole == "x ? ? : z":
                    want, mark = "x ? \x00 : z", "\x00"
                if hole == "x ? y : ?":
                    want, mark = "x ? y : \x00", "\x00"
                want = want.replace(mark, "(" + text + ")" if lower else text, 1)
                self.assertEqual(expression_text(make(part)), want)
                self.assertEqual(expression_of(want), make(part))

    def test_second_reason(self):
        for part, text in [(("op", "+", X, Y), "z x + y"), (X, "z x"), (("text", "-"), "z \"-\""),
                (("field", X), "z $x"), (("call", "f", (X,)), "z f(x)"), (("built", "int", (X,)), "z int(x)"),
                (ONE, "z 1"), (("not", X), "z (!x)"),
                           (("minus", X), "z (-x)"), (("plus", X), "z (+x)"), (("step", X, 1, True), "z (++x)"),
                           (("step", X, -1, True), "z (--x)"), (("step", X, -1, False), "z x--"), (A, "z (/a/)"),
                           (("op", "*", A, X), "z (/a/ * x)"),
                           (("op", "+", ("op", "*", ("minus", X), Y), Z), "z (-x * y + z)"),
                           (("op", "^", ("step", X, 1, True), Y), "z (++x ^ y)"),
                           (("op", "^", ("minus", X), Y), "z (-x) ^ y"), (("op", "*", X, ("minus", Y)), "z x * -y"),
                           (("op", "-", X, A), "z x - /a/"), (("op", "*", JOIN, X), "z (x y) * x"),
                           (("op", "^", A, X), "z (/a/ ^ x)"), (("op", "-", ("step", X, 1, False), Y), "z x++ - y"),
                           (JOIN, "z (x y)"),
                           (("op", "+", ("op", "+", ("minus", X), Y), Z), "z (-x + y + z)"),
                           (("op", "*", ("op", "/", A, X), Y), "z (/a/ / x * y)"),
                           (("op", "^", ("op", "^", ("step", X, 1, True), Y), Z), "z (++x ^ y) ^ z"),
                           (("op", "-", ("op", "-", X, Y), ("minus", Z)), "z x - y - -z"),
                           (("op", "*", ("op", "+", ("minus", X), Y), Z), "z (-x + y) * z")]:
            self.assertEqual(expression_text(("join", Z, part)), text)
            self.assertEqual(expression_of(text), ("join", Z, part))
        self.assertEqual(expression_text(("join", ("minus", X), Y)), "-x y")
        self.assertEqual(expression_text(("join", A, Y)), "/a/ y")
        self.assertEqual(expression_text(("op", "+", X, ("minus", Y))), "x + -y")

    def test_third_reason(self):
        self.assertEqual(expression_text(("compare", "<", READ, X)), "(getline) < x")
        self.assertEqual(expression_text(("compare", "<", ("getline", "main", None, Y), X)), "(getline y) < x")
        for sign in ["<=", "==", "!=", ">", ">="]:
            self.assertEqual(expression_text(("compare", sign, READ, X)), "getline " + sign + " x")
        self.assertEqual(expression_text(("compare", "<", FILE, X)), "getline < x < x")
        self.assertEqual(expression_text(("compare", "<", PIPED, X)), "x | getline < x")
        self.assertEqual(expression_text(("compare", "<", X, READ)), "x < getline")
        self.assertEqual(expression_text(("match", READ, X, False)), "getline ~ x")

    def test_fourth_reason(self):
        for tag in ["print", "printf"]:
            for trees, text in [
                    ((MORE,), "(x > y)"), ((X, MORE), "x, (x > y)"), ((MORE, PIPED), "(x > y), (x | getline)"),
                    ((LESS,), "x < y"), ((("compare", ">=", X, Y),), "x >= y"), ((PIPED,), "(x | getline)"),
                    ((READ,), "getline"), ((FILE,), "getline < x"),
                    ((("getline", "|", PIPED, X),), "(x | getline | getline x)"),
                    ((("element", "n", (MORE, PIPED)),), "n[x > y, x | getline]"),
                    ((("call", "f", (MORE,)),), "f(x > y)"), ((("built", "int", (PIPED,)),), "int(x | getline)"),
                    ((("not", MORE),), "!(x > y)"), ((("set", X, MORE),), "x = (x > y)"),
                    ((("choose", MORE, PIPED, MORE),), "(x > y) ? (x | getline) : (x > y)"),
                    ((("or", MORE, X),), "(x > y) || x"), ((("and", X, PIPED),), "x && (x | getline)"),
                    ((("in", (MORE,), "n"),), "(x > y) in n"), ((("in", (MORE, X), "n"),), "(x > y, x) in n"),
                    ((("match", MORE, PIPED, False),), "(x > y) ~ (x | getline)"),
                    ((("compare", "==", PIPED, X),), "(x | getline) == x"),
                    ((("compare", "==", MORE, X),), "(x > y) == x"), ((("compare", ">", PIPED, X),),
                    "(x | getline > x)"), ((("set", X, ("set", Y, MORE)),), "x = y = (x > y)"),
                    ((("join", X, ("set", Y, MORE)),), "x (y = x > y)"),
                    ((("field", MORE),), "$(x > y)"), ((("getline", "<", MORE, None),), "getline < (x > y)"),
                    ((("getline", "|", MORE, None),), "((x > y) | getline)"),
                    ((("getline", "main", None, ("field", PIPED)),), "getline $(x | getline)"),
                    ((("getline", "|", X, ("element", "n", (MORE,))),), "(x | getline n[x > y])"),
                    ((("join", X, MORE),), "x (x > y)"), ((("compare", ">", ("compare", ">", X, Y), Z),),
                    "((x > y) > z)"), ((("set", ("element", "n", (MORE,)), PIPED),), "n[x > y] = (x | getline)"),
                    ((("text", "|"), ("text", ">")), "\"|\", \">\""), ((("pattern", "|"), ("match", X, ("pattern",
                    ">"), True)), "/|/, x !~ />/"), ((("getline", "|", ("getline", "|", PIPED, None), X), X),
                    "(x | getline | getline | getline x), x"),
                    ((("compare", "<", PIPED, MORE),), "(x | getline) < (x > y)"),
                    ((("change", "+", X, MORE),), "x += (x > y)")]:
                for out, behind in [(None, ""), ((">", X), " > x"), (("|", X), " | x")]:
                    self.assertEqual(text_of((tag, trees, out)), "  " + tag + " " + text + behind + "\n")
                    self.assertEqual(program_of("{" + tag + " " + text + behind + "}"),
                            ((("always", ((tag, trees, out),)),), ()))

    def test_fourth_reason_is_no_other(self):
        for tree, text in [(MORE, "x > y"), (PIPED, "x | getline"), (("set", X, MORE), "x = x > y")]:
            self.assertEqual(expression_text(tree), text)
            for statement, row in [(("expr", tree), text), (("exit", tree), "exit " + text),
                    (("delete", "n", (tree,)), "delete n[" + text + "]")]:
                self.assertEqual(text_of(statement), "  " + row + "\n")
            self.assertEqual(program_text(((("when", tree, None), ("range", tree, tree, None)), ())),
                    text + "\n" + text + ", " + text + "\n")
            self.assertEqual(text_of(("print", (), (">", tree))), "  print > (" + text + ")\n")

    def test_out(self):
        for part, text in SAMPLES:
            lower = LEVELS.index("J") > [sample[0] for sample in SAMPLES].index(part)
            for sign in [">", ">>", "|"]:
                self.assertEqual(text_of(("print", (X,), (sign, part))),
                        "  print x " + sign + " " + ("(" + text + ")" if lower else text) + "\n")


class TestErrors(Case):

    def test_no_trees(self):
        for value in VALUES + [MORE, ("expr", X), ((X,), ()), ("always", ())]:
            if type(value) is not tuple or value != ((), ()):
                self.raises(InvalidProgram, program_text, value)
            if type(value) is not tuple or value not in [X, MORE]:
                self.raises(InvalidExpression, expression_text, value)

    def test_too_large(self):
        deep, fitting, wide = X, X, X
        for level in range(31):
            deep = ("element", "n", (deep,))
            if level < 30:
                fitting = ("element", "n", (fitting,))
        self.assertEqual(expression_text(fitting), "n[" * 30 + "x" + "]" * 30)
        self.raises(TooLarge, expression_text, deep)
        self.raises(TooLarge, program_text, ((("when", deep, None),), ()))
        self.raises(TooLarge, program_text, ((("always", (("expr", fitting),)),), ()))
        for _ in range(149):
            wide = ("join", wide, X)
        self.assertEqual(expression_text(wide), " ".join(["x"] * 150))
        self.raises(TooLarge, expression_text, ("join", wide, X))
        self.assertEqual(len(program_text(((("when", wide, None), ("when", wide, None)), ()))), 600)
        self.assertEqual(len(program_text(((("when", wide, ()),), ()))), 304)
        self.raises(TooLarge, program_text, ((("when", ("join", wide, X), ()),), ()))
        body = tuple([("while", X, ())] * 61)
        self.raises(TooLarge, program_text, ((("always", body),), ()))
        self.raises(TooLarge, program_text, ((), (("f", (), body),)))
        self.assertEqual(program_of(program_text(((("always", body[1:]),), ()))), ((("always", body[1:]),), ()))

    def test_deep_trees(self):
        deep, statement = X, ("next",)
        for _ in range(1000):
            deep = ("minus", deep)
        self.raises(TooLarge, expression_text, deep)
        for _ in range(500):
            statement = ("if", X, (statement,), ())
        self.raises(TooLarge, program_text, ((("always", (statement,)),), ()))


def bracket_pairs(text):
    """The stretches of the brackets that stand around expressions."""
    words, spots = words_of(text), spots_of(text)
    waiting, found = [], []
    for at, word in enumerate(words):
        if word == ("symbol", "("):
            waiting.append(at)
        elif word == ("symbol", ")"):
            start = waiting.pop()
            ahead = words[start - 1] if start > 0 else None
            if ahead is None or ahead[0] not in ("call", "built") and ahead not in [("key", "if"), ("key", "while"),
                    ("key", "for")]:
                found.append((spots[start][0], spots[at][0]))
    return found


class TestFacts(Case):

    def there_and_back(self, tree, printer, reader):
        try:
            text = printer(tree)
        except TooLarge:
            return 0
        self.assertEqual(reader(text), tree, text)
        if len(text) > 500:
            return 0
        pairs = bracket_pairs(text)
        for start, end in pairs:
            for gap in ["", " "]:
                less = text[:start] + gap + text[start + 1:end] + gap + text[end + 1:]
                try:
                    self.assertNotEqual(reader(less), tree, (text, less))
                except (InvalidWord, NoProgram, TooLarge):
                    pass
        return len(pairs)

    def test_b2_and_b3(self):
        rnd = random_of("B2")
        trees = Trees(rnd)
        pairs = 0
        for _ in range(500 * MANY):
            pairs += self.there_and_back(trees.expression(rnd.randrange(2, 6)), expression_text, expression_of)
            pairs += self.there_and_back(trees.program(rnd.randrange(3, 6)), program_text, program_of)
        self.assertGreater(pairs, 500)

    def test_b2_and_b3_of_each_pair_of_kinds(self):
        parts = [sample[0] for sample in SAMPLES] + [A, ("minus", X), ("plus", X), ("step", X, -1, True), MORE, LESS,
                ("match", X, Y, True), ("in", (X, Y), "n"), ("change", "^", X, Y), ("built", "length", ()),
                ("op", "-", A, X),
                                                     ("op", "@", ("plus", X), X), ("getline", "|", X, X),
                                                     ("field", ("step", X, 1, True)), ("element", "n", (MORE,))]
        for make, _, _ in PLACES:
            for part in parts:
                for outer in [make(part)] + [other(make(part)) for other, _, _ in PLACES[::12]]:
                    self.there_and_back(outer, expression_text, expression_of)
                    for statement in [("print", (outer,), None), ("printf", (X, outer), ("|", outer))]:
                        self.there_and_back(((("always", (statement,)),), ()), program_text, program_of)


if __name__ == "__main__":
    unittest.main()
