"""[11], [13] and the facts B1, B4, B5: the grammar, and reading programs and expressions."""

import unittest

from patterndeeds.errors import InvalidSource, InvalidWord, NoProgram, TooLarge
from patterndeeds.parser import expression_of, program_of
from patterndeeds.printer import expression_text, program_text
from patterndeeds.signs import BUILTS, DOUBLES, KEYS, SINGLES
from patterndeeds.trees import depth, is_expression, is_program, places
from patterndeeds.words import are_words, shortest_source, source_of, too_large, words_of
from grammar import MARKS, Maker, Recognizer, grammar
from helper import MANY, VALUES, Case, body_of, random_of

X, Y, Z = ("name", "x"), ("name", "y"), ("name", "z")
ONE = ("number", 1, 1)
E = ("expr", X)


class TestExamples(Case):

    def test_examples(self):
        p = program_of("$2 > 5 { n[$1]++ } END { for (k in n) print k, n[k] }")
        self.assertEqual(program_text(p),
                '$2 > 5 {\n  n[$1]++\n}\nEND {\n  for (k in n) {\n    print k, n[k]\n  }\n}\n')
        self.assertEqual([len(places(p)), depth(p)], [6, 6])
        self.assertEqual([expression_of("-2 ^ 2"), expression_of("!x ~ y")],
                         [('minus', ('op', '^', ('number', 2, 1), ('number', 2, 1))),
                          ('match', ('not', ('name', 'x')), ('name', 'y'), False)])
        texts = ["a (-b)", "(a) - (-b)", "(-2) ^ (2 + 1)", "f((g h))", "(getline) < x", "$(i++)", "(a ~ b) ~ c"]
        self.assertEqual([expression_text(expression_of(text)) for text in texts],
                         ['a (-b)', 'a - -b', '(-2) ^ (2 + 1)', 'f(g h)', '(getline) < x', '$(i++)', '(a ~ b) ~ c'])
        self.assertEqual(program_text(program_of("{ print (a > b), x[c > d] > \"e\" \"f\"; print(1, 2) }")),
                         '{\n  print (a > b), x[c > d] > "e" "f"\n  print 1, 2\n}\n')
        self.raises_with(NoProgram, "number", 4, program_of, "{ print 1 + }")
        self.raises_with(NoProgram, "number", 3, program_of, "a < b < c")


class TestExpressions(Case):

    def test_trees(self):
        for source, tree in [
                ("1.50", ("number", 3, 2)), ("\"a\"", ("text", "a")), ("/a\\/b/", ("pattern", "a/b")), ("x", X),
                ("n[x]", ("element", "n", (X,))),
                ("n[x, y]", ("element", "n", (X, Y))), ("n [x]", ("element", "n", (X,))), ("$x", ("field", X)),
                ("$$x", ("field", ("field", X))),
                ("x = y", ("set", X, Y)), ("x += y", ("change", "+", X, Y)), ("x -= y", ("change", "-", X, Y)),
                ("x *= y", ("change", "*", X, Y)),
                ("x /= y", ("change", "/", X, Y)), ("x @= y", ("change", "@", X, Y)), ("x ^= y", ("change", "^", X, Y)),
                ("++x", ("step", X, 1, True)), ("--x", ("step", X, -1, True)), ("x++", ("step", X, 1, False)),
                ("x--", ("step", X, -1, False)),
                ("x ? y : z", ("choose", X, Y, Z)), ("x || y", ("or", X, Y)), ("x && y", ("and", X, Y)),
                ("x in n", ("in", (X,), "n")),
                ("(x, y) in n", ("in", (X, Y), "n")), ("x ~ y", ("match", X, Y, False)),
                ("x !~ y", ("match", X, Y, True)),
                ("x y", ("join", X, Y)), ("!x", ("not", X)), ("-x", ("minus", X)), ("+x", ("plus", X)),
                ("f()", ("call", "f", ())),
                ("f(x, y)", ("call", "f", (X, Y))), ("length", ("built", "length", ())),
                ("length()", ("built", "length", ())),
                ("length (x)", ("built", "length", (X,))), ("substr(x, y, z)", ("built", "substr", (X, Y, Z))),
                ("(x)", X), ("((x))", X),
                ("getline", ("getline", "main", None, None)), ("getline x", ("getline", "main", None, X)),
                ("getline < x", ("getline", "<", X, None)),
                ("getline y < x", ("getline", "<", X, Y)), ("x | getline", ("getline", "|", X, None)),
                ("x | getline y", ("getline", "|", X, Y))]:
            self.assertEqual(expression_of(source), tree, source)
            self.assertEqual(program_of(source), ((("when", tree, None),), ()), source)
        for sign in ["<", "<=", "==", "!=", ">", ">="]:
            self.assertEqual(expression_of("x%sy" % sign), ("compare", sign, X, Y))
        for sign in "+-*/@^":
            self.assertEqual(expression_of("x%sy" % sign), ("op", sign, X, Y))

    def test_levels(self):
        """Each source has the tree of the one with all brackets."""
        for source, whole in [
                ("x = y = z", "x = (y = z)"), ("x = y ? z : x", "x = (y ? z : x)"), ("x += y -= z", "x += (y -= z)"),
                ("x ? y : z ? x : y", "x ? y : (z ? x : y)"), ("x ? y ? z : x : y", "x ? (y ? z : x) : y"),
                ("x ? y = z : x", "x ? (y = z) : x"),
                ("x || y ? z : x", "(x || y) ? z : x"), ("x || y || z", "(x || y) || z"),
                ("x && y && z", "(x && y) && z"),
                ("x || y && z", "x || (y && z)"), ("x && y || z", "(x && y) || z"), ("x && y in n", "x && (y in n)"),
                ("x in n && y", "(x in n) && y"),
                ("x in n in n", "(x in n) in n"), ("(x, y) in n in n", "((x, y) in n) in n"),
                ("x ~ y in n", "(x ~ y) in n"),
                ("x < y in n", "(x < y) in n"), ("x ~ y < z", "x ~ (y < z)"), ("x < y ~ z", "(x < y) ~ z"),
                ("x == y !~ z >= x", "(x == y) !~ (z >= x)"),
                ("x < y z", "x < (y z)"), ("x y < z", "(x y) < z"), ("x y z", "(x y) z"), ("x y + z", "x (y + z)"),
                ("x + y z", "(x + y) z"),
                ("x -y", "x - y"), ("x + y - z", "(x + y) - z"), ("x - y + z", "(x - y) + z"),
                ("x + y * z", "x + (y * z)"), ("x * y + z", "(x * y) + z"),
                ("x * y / z @ x", "((x * y) / z) @ x"), ("-x * y", "(-x) * y"), ("x * -y", "x * (-y)"),
                ("!x + y", "(!x) + y"), ("-x + y", "(-x) + y"),
                ("- - x", "-(-x)"), ("!-+x", "!(-(+x))"), ("-x ^ y", "-(x ^ y)"), ("!x ^ y", "!(x ^ y)"),
                ("x ^ -y ^ z", "x ^ (-(y ^ z))"),
                ("x ^ y ^ z", "x ^ (y ^ z)"), ("x ^ y * z", "(x ^ y) * z"), ("x++ ^ y", "(x++) ^ y"),
                ("++x ^ y", "(++x) ^ y"), ("x ^ y++", "x ^ (y++)"),
                ("x++ + ++y", "(x++) + (++y)"), ("x++ y", "(x++) y"), ("x + +y", "x + (+y)"), ("x - -y", "x - (-y)"), 
                ("-x++", "-(x++)"), ("!x++", "!(x++)"), ("$x y", "($x) y"), ("$x ^ y", "($x) ^ y"), ("-$x", "-($x)"),
                ("!x ~ y", "(!x) ~ y"),
                ("!x in n", "(!x) in n"), ("x y in n", "(x y) in n"), ("x | getline y | getline",
                "(x | getline y) | getline"),
                ("x y | getline", "(x y) | getline"), ("x + y | getline z", "(x + y) | getline z"),
                ("-x | getline", "(-x) | getline"),
                ("x | getline < y", "(x | getline) < y"), ("x | getline y < z", "(x | getline y) < z"),
                ("x < y | getline", "x < (y | getline)"),
                ("getline < x < y", "(getline < x) < y"), ("getline x < y == z", "(getline x < y) == z"),
                ("x == getline", "x == (getline)"),
                ("x < getline < y", "x < (getline < y)"), ("getline == x", "(getline) == x"),
                ("getline x > y", "(getline x) > y"), ("getline ~ x", "(getline) ~ x"),
                ("x = getline < y", "x = (getline < y)"), ("x && getline y", "x && (getline y)"),
                ("getline $x < y", "getline $x < (y)"),
                ("length x", "(length) x"), ("length + x", "(length) + x"), ("length(x) y", "(length(x)) y"),
                ("x length", "x (length)"),
                ("x / y / z", "(x / y) / z"), ("1 2 .5", "((1) (2)) (.5)"), ("x \"a\" 1", "(x \"a\") 1"),
                ("x f(y) $z", "(x (f(y))) ($z)"),
                ("x[y] z[1]", "(x[y]) (z[1])"), ("$x[1]", "$(x[1])"), ("$f(x)", "$(f(x))"), ("$length", "$(length)"),
                ("$1 $2", "($1) ($2)"), ("$x++ + y", "($x++) + y"),
                ("x = y ~ z", "x = (y ~ z)"), ("x ? y : z || x", "x ? y : (z || x)"),
                ("f(x = y, z ? x : y)", "f((x = y), (z ? x : y))")]:
            self.assertEqual(expression_of(source), expression_of(whole), source)

    def test_texts_are_no_symbols(self):
        for mark in MARKS:
            text = ("text", mark)
            written = source_of([text])
            self.assertEqual(expression_of("x " + written), ("join", X, text))
            self.assertEqual(expression_of("f(" + written + ")"), ("call", "f", (text,)))
            self.assertEqual(expression_of("getline < " + written), ("getline", "<", text, None))
            self.assertEqual(body_of(written + "; " + written), (("expr", text), ("expr", text)))
            self.assertEqual(body_of("print x " + written), (("print", (("join", X, text),), None),))
            self.assertEqual(body_of("print " + written + " > " + written), (("print", (text,), (">", text)),))
            self.assertEqual(body_of("exit " + written), (("exit", text),))
            self.assertEqual(program_of("x " + written + " { }"), ((("when", ("join", X, text), ()),), ()))
            if mark != "\n":
                pattern = ("pattern", mark)
                written = source_of([pattern])
                self.assertEqual(body_of("x ~ " + written), (("expr", ("match", X, pattern, False)),))
                self.assertEqual(body_of("return " + written + "; print " + written),
                        (("return", pattern), ("print", (pattern,), None)))
                self.assertEqual(program_of(written + "\n" + written + " { }"),
                        ((("when", pattern, None), ("when", pattern, ())), ()))

    def test_steps_and_fields(self):
        self.assertEqual(expression_of("$x++"), ("step", ("field", X), 1, False))
        self.assertEqual(expression_of("$(x++)"), ("field", ("step", X, 1, False)))
        self.assertEqual(expression_of("$++x"), ("field", ("step", X, 1, True)))
        self.assertEqual(expression_of("$++x++"), ("step", ("field", ("step", X, 1, True)), 1, False))
        self.assertEqual(expression_of("++$x"), ("step", ("field", X), 1, True))
        self.assertEqual(expression_of("--$++x"), ("step", ("field", ("step", X, 1, True)), -1, True))
        self.assertEqual(expression_of("$--n[x] = 1"), ("set", ("field", ("step", ("element", "n", (X,)), -1, True)),
                ONE))
        self.assertEqual(expression_of("x ++ y"), ("join", ("step", X, 1, False), Y))
        self.assertEqual(expression_of("x + ++y"), ("op", "+", X, ("step", Y, 1, True)))

    def test_what_may_not_follow(self):
        for source, number in [
                ("", 0), ("x +", 2), ("x + = y", 2), ("(x) = y", 3), ("x + y = z", 3), ("x y = z", 2), ("!x = y", 2),
                ("x ? y : z = x", 5),
                ("x ? y", 3), ("x ? y z", 4), ("x ? y )", 3), ("x || y = z", 3), ("x < y < z", 3), ("x < y == z", 3),
                ("x ~ y ~ z", 3), ("x ~ y !~ z", 3),
                ("x in n ~ y", 3), ("x in n + y", 3), ("x in n y", 3), ("x in n[1]", 3), ("x in 1", 2), ("x in f(", 2),
                ("x in (n)", 2), ("x in", 2),
                ("(x, y)", 5), ("(x, y) n", 5), ("(x, y) in", 6), ("(x, y) in 1", 6), ("1 + (x, y) in n", 4),
                ("x (y, z) in n", 3), ("!(x, y) in n", 3),
                ("x ~ (y, z) in n", 4), ("$(x, y) in n", 3), ("x < (y, z) in n", 4), ("(x, y) in n ~ z", 7),
                ("(x,)", 3), ("(,x)", 1), ("()", 1),
                ("x !y", 1), ("x /y/", 4), ("x getline", 1), ("x in getline", 2), ("! getline", 1), ("x + getline", 2),
                ("getline y z", 2), ("getline + x", 1),
                ("getline (x)", 1), ("getline x++", 2), ("getline < x y", 3), ("getline < x + y", 3),
                ("getline < x++", 3), ("getline < ++x", 2),
                ("getline < -x", 2), ("getline < x | getline", 3), ("getline | getline", 1), ("getline x = y", 2),
                ("getline < x = y", 3), ("x |", 2),
                ("x | y", 2), ("x | getline y z", 4), ("x = y | z", 4), ("++x++", 2), ("++ ++x", 1), ("++-x", 1),
                ("++(x)", 1), ("++1", 1), ("++f(x)", 1),
                ("++x = y", 2), ("x++ = y", 2), ("x++ ++", 2), ("1++", 1), ("(x)++", 3), ("-x++ ++", 3), ("f(x)++", 4),
                ("$", 1), ("$-x", 1), ("$!x", 1), ("$x = ", 3),
                ("$getline", 1), ("n[]", 2), ("n[x", 3), ("n[x,]", 4), ("n[x;]", 3), ("1[x]", 1), ("f(x", 3),
                ("f(x,)", 4), ("f(,x)", 2), ("f(x y,", 5), ("f(x;", 3),
                ("substr", 1), ("substr x", 1), ("close[1]", 1), ("substr(", 2), ("length(", 2), ("length[1]", 1),
                ("length(x", 3), ("in", 0), ("x in in", 2), ("print x", 0),
                ("x ^", 2), ("x ^ = y", 2), ("* x", 0), ("x * * y", 2), ("x,", 1), ("x;", 1), ("x }", 1), ("x {", 1),
                ("x)", 1), ("x]", 1), (") x", 0), ("x : y", 1),
                ("x ? : y", 2), ("x == ", 2), ("x = = y", 2), ("= x", 0), ("!", 1), ("x ~", 2), ("x && ", 2),
                ("x || ", 2), ("x && || y", 2), ("else", 0), ("$x[", 3)]:
            self.raises_with(NoProgram, "number", number, expression_of, source)

    def test_lines_in_expressions(self):
        for source, number in [("\nx", 0), ("x\n", 1), ("x &&\ny", 2), ("x || \ny", 2), ("f(x,\ny)", 4),
                ("n[x,\ny]", 4), ("(x,\ny) in n", 3), ("x +\ny", 2),
                               ("(\nx)", 1), ("\n", 0)]:
            self.raises_with(NoProgram, "number", number, expression_of, source)
        for source, plain in [("x &&\ny", "x && y"), ("x ||\n\n\ny", "x || y"), ("f(x,\ny,\n\nz)", "f(x, y, z)"),
                ("n[x,\ny]", "n[x, y]"),
                              ("(x,\ny) in n", "(x, y) in n"), ("(x,\n y,\n\nz) in n", "(x, y, z) in n"),
                              ("x,\ny", "x, y"), ("x, \n\n y { }", "x, y { }"),
                              ("{ print x,\n y }", "{ print x, y }"), ("{ print(x,\n y) }", "{ print x, y }"),
                              ("{ delete n[x,\n y] }", "{ delete n[x, y] }"),
                              ("substr(x,\ny)", "substr(x, y)"), ("x ? y &&\nz : x", "x ? y && z : x"),
                              ("x\\\n+ y", "x + y")]:
            self.assertEqual(program_of(source), program_of(plain))
        for source, number in [("x +\ny", 2), ("(\nx)", 1), ("(x\n)", 2), ("f(\nx)", 2), ("f(x\n)", 3),
                ("f(x\n, y)", 3), ("x ?\ny : z", 2), ("x ? y\n: z", 3),
                               ("x ? y :\nz", 4), ("x = \ny", 2), ("n[\nx]", 2), ("n[x\n]", 3), ("x in \nn", 2),
                               ("!\nx", 1), ("x ~\ny", 2), ("x |\ngetline", 2),
                               ("x \n&& y", 2), ("x\n|| y", 2), ("x\n, y", 2)]:
            self.raises_with(NoProgram, "number", number, program_of, source)


class TestStatements(Case):

    def test_trees(self):
        for source, tree in [
                ("x", E), ("print", ("print", (), None)), ("print x", ("print", (X,), None)),
                ("print x, y", ("print", (X, Y), None)),
                ("print > x", ("print", (), (">", X))), ("print x >> y", ("print", (X,), (">>", Y))),
                ("print x, y | z", ("print", (X, Y), ("|", Z))),
                ("print > x y", ("print", (), (">", ("join", X, Y)))), ("printf x", ("printf", (X,), None)),
                ("printf x, y > z", ("printf", (X, Y), (">", Z))),
                ("printf(x, y) | z", ("printf", (X, Y), ("|", Z))), ("if (x) y", ("if", X, (("expr", Y),), ())),
                ("if (x) ;", ("if", X, (), ())),
                ("if (x) ; else y", ("if", X, (), (("expr", Y),))), ("if (x) { } else { }", ("if", X, (), ())),
                ("while (x) y", ("while", X, (("expr", Y),))),
                ("while (x) ;", ("while", X, ())), ("do y; while (x)", ("do", (("expr", Y),), X)),
                ("do ; while (x)", ("do", (), X)),
                ("for (;;) ;", ("for", (), None, (), ())), ("for (x; y; z) ;", ("for", (E,), Y, (("expr", Z),), ())),
                ("for (x;;) x", ("for", (E,), None, (), (E,))),
                ("for (;x;) x", ("for", (), X, (), (E,))), ("for (;;x) x", ("for", (), None, (E,), (E,))),
                ("for (x in y) z", ("walk", "x", "y", (("expr", Z),))),
                ("for (x in y;;) ;", ("for", (("expr", ("in", (X,), "y")),), None, (), ())),
                ("for ((x in y);;) ;", ("for", (("expr", ("in", (X,), "y")),), None, (), ())),
                ("for (x in y in z;;) ;", ("for", (("expr", ("in", (("in", (X,), "y"),), "z")),), None, (), ())),
                ("for ((x, y) in z;;) ;", ("for", (("expr", ("in", (X, Y), "z")),), None, (), ())),
                ("break", ("break",)), ("continue", ("continue",)),
                ("next", ("next",)), ("exit", ("exit", None)), ("exit x", ("exit", X)), ("return", ("return", None)),
                ("return x", ("return", X)),
                ("exit (x)", ("exit", X)), ("exit /x/", ("exit", ("pattern", "x"))),
                ("return getline", ("return", ("getline", "main", None, None))),
                ("return -x", ("return", ("minus", X))), ("return ++x", ("return", ("step", X, 1, True))),
                ("delete x", ("delete", "x", None)),
                ("delete x[y]", ("delete", "x", (Y,))), ("delete x[y, z]", ("delete", "x", (Y, Z))),
                ("delete x [y]", ("delete", "x", (Y,)))]:
            self.assertEqual(body_of(source), (tree,), source)
            self.assertEqual(body_of(source + "; next"), (tree, ("next",)), source)
            self.assertEqual(body_of("{ " + source + "\n\n }"), (tree,), source)
            self.assertEqual(body_of("while (x)\n" + source), (("while", X, (tree,)),), source)
            self.assertEqual(body_of("while (x) { " + source + " }"), (("while", X, (tree,)),), source)

    def test_blocks_leave_no_trace(self):
        self.assertEqual(body_of("{ x } { { y; { } } } ;; { } z"), (E, ("expr", Y), ("expr", Z)))
        self.assertEqual(body_of("if (x) { { x } y } else { { } }"), (("if", X, (E, ("expr", Y)), ()),))
        self.assertEqual(body_of("\n\n;\n"), ())
        self.assertEqual(body_of("while (x) { } y"), (("while", X, ()), ("expr", Y)))
        self.assertEqual(body_of("while (x) ; y"), (("while", X, ()), ("expr", Y)))
        self.assertEqual(body_of("while (x)\n\n\n{ } # z\n y"), (("while", X, ()), ("expr", Y)))

    def test_else(self):
        a, b, c = (("expr", ("name", name)) for name in "abc")
        for source, tree in [
                ("if (x) a; else b", ("if", X, (a,), (b,))), ("if (x) a\nelse b", ("if", X, (a,), (b,))),
                ("if (x) a\n\n;\n\nelse\n\nb", ("if", X, (a,), (b,))),
                ("if (x) { a } else b", ("if", X, (a,), (b,))), ("if (x) { a }\n;\nelse b", ("if", X, (a,), (b,))),
                ("if (x) { a }; else { b }", ("if", X, (a,), (b,))),
                ("if (x) ;\n;else b", ("if", X, (), (b,))), ("if (x) ;; else b", ("if", X, (), (b,))),
                ("if (x) a; else ;", ("if", X, (a,), ())),
                ("if (x) if (y) a; else b", ("if", X, (("if", Y, (a,), (b,)),), ())),
                ("if (x) if (y) a; else b; else c", ("if", X, (("if", Y, (a,), (b,)),), (c,))),
                ("if (x) { if (y) a } else b", ("if", X, (("if", Y, (a,), ()),), (b,))),
                ("if (x) a; else if (y) b; else c", ("if", X, (a,), (("if", Y, (b,), (c,)),))),
                ("if (x) while (y) a; else b", ("if", X, (("while", Y, (a,)),), (b,))),
                ("if (x) while (y) ; else b", ("if", X, (("while", Y, ()),), (b,))),
                ("if (x) while (y) if (z) a; else b", ("if", X, (("while", Y, (("if", Z, (a,), (b,)),)),), ())),
                ("if (x) do a; while (y); else b", ("if", X, (("do", (a,), Y),), (b,))),
                ("do if (x) a; else b; while (y)", ("do", (("if", X, (a,), (b,)),), Y)),
                ("if (x) for (;;) ; else b", ("if", X, (("for", (), None, (), ()),), (b,)))]:
            self.assertEqual(body_of(source), (tree,), source)
        for source, number in [("if (x) a else b", 6), ("if (x) a;; else b", 8), ("if (x) a; b; else c", 9),
                ("else a", 1), ("if (x) { }\n;\n; else b", 11),
                               ("if (x) a; else b; else c", 10), ("if (x) if (y) { } else { } else { } else", 17),
                               ("if (x) ;;; else b", 8)]:
            self.raises_with(NoProgram, "number", number, program_of, "{" + source + "}")

    def test_do(self):
        for source in ["do x; while (y)", "do x\nwhile (y)", "do\n\nx\n;\nwhile (y)", "do { x } while (y)",
                "do { x }; while (y)", "do { x }\n;\n\nwhile (y)"]:
            self.assertEqual(body_of(source), (("do", (E,), Y),))
        self.assertEqual(body_of("do while (x) ; while (y)"), (("do", (("while", X, ()),), Y),))
        self.assertEqual(body_of("do while (x) x\nwhile (y)"), (("do", (("while", X, (E,)),), Y),))
        self.assertEqual(body_of("do do x; while (y); while (z)"), (("do", (("do", (E,), Y),), Z),))
        self.assertEqual(body_of("do x; while (y); while (z) x"), (("do", (E,), Y), ("while", Z, (E,))))
        for source, number in [("do x while (y)", 3), ("do x;; while (y)", 4), ("do { x } y", 5), ("do x; while y", 5),
                ("do x; while (y) z", 8), ("do while (y) x }", 7)]:
            self.raises_with(NoProgram, "number", number, program_of, "{" + source + "}")

    def test_what_may_not_follow(self):
        for source, number in [
                ("x y, z", 3), ("x,", 2), ("x )", 2), ("x next", 2), ("x { }", 2), ("next x", 2), ("break x", 2),
                ("continue 1", 2), ("exit x, y", 3), ("exit * x", 2),
                ("exit print", 2), ("return )", 2), ("delete", 2), ("delete 1", 2), ("delete f(x)", 2),
                ("delete (x)", 2), ("delete x[]", 4), ("delete x[y", 5),
                ("delete x, y", 3), ("delete x y", 3), ("if x", 2), ("if ()", 3), ("if (x", 4), ("if (x) }", 5),
                ("if (x) else", 5), ("while () x", 3), ("while (x) }", 5),
                ("while\n(x) ;", 2), ("if\n(x) ;", 2), ("if (x\n) ;", 4), ("for\n(;;) ;", 2), ("for (;) ;", 4),
                ("for (;;;) ;", 5), ("for (x) ;", 4), ("for (x, y in z) ;", 4),
                ("for (x in y z) ;", 6), ("for (x in y; z) ;", 8), ("for (\n;;) ;", 3), ("for (;\n;) ;", 4),
                ("for (;;\n) ;", 5), ("for (x in\ny) ;", 5), ("for (;;) }", 6),
                ("for (1 in y) ;", 6), ("for (\"x\" in y) ;", 6), ("for (x + y) ;", 6), ("for (x = y) ;", 6),
                ("for (x y) ;", 5), ("for (x in 1) ;", 5), ("for (x in) ;", 5), ("for (x in f(y)) ;", 5),
                ("for (in y) ;", 3), ("for ((x) in y) ;", 8), ("for (x[1] in y) ;", 9), ("for ((x, y) in z) ;", 10),
                ("for (x y in z) ;", 7), ("{ x } else", 4), ("function f() { }", 1), ("BEGIN { }", 1),
                ("; x ; ) ", 4), ("in", 1), ("getline print", 2), ("print print", 2), ("print ,", 2), ("do", 2),
                ("do }", 2)]:
            self.raises_with(NoProgram, "number", number, program_of, "{" + source + "}")
        for source in ["{", "{ {", "{ x", "{ x;", "{ if (x)", "{ if (x) {", "{ if (x) y; else", "{ do x",
                "{ do x; while (y)", "{ for (", "{ for (x in y)", "{ print", "{ print x >",
                       "{ delete x[", "{ exit", "function", "function f", "function f(", "function f(x",
                       "function f(x,", "function f(x)", "function f(x) {", "BEGIN", "END", "BEGIN {",
                       "x,", "x, y +", "x {", "x &&", "n[", "x ? y", "!", "f(x,", "{ printf", "{ do", "{ x }; y ="]:
            self.raises_with(NoProgram, "number", len(words_of(source)), program_of, source)
            self.raises_with(NoProgram, "number", len(words_of(source)), program_of, source + " \t# x")


class TestPrint(Case):

    def test_lists(self):
        compare = ("compare", ">", X, Y)
        for source, tree in [
                ("print (x)", ((X,), None)), ("print (x, y)", ((X, Y), None)),
                ("print (x)(y)", ((("join", X, Y),), None)), ("print (x), y", ((X, Y), None)),
                ("print (x, y) in z", ((("in", (X, Y), "z"),), None)),
                ("print (x, y) in z, x", ((("in", (X, Y), "z"), X), None)),
                ("print x, (y, z) in x", ((X, ("in", (Y, Z), "x")), None)),
                ("print (x > y)", ((compare,), None)), ("print (x > y) > z", ((compare,), (">", Z))),
                ("print x > y", ((X,), (">", Y))), ("print (x) > y", ((X,), (">", Y))),
                ("print (x, y) > z", ((X, Y), (">", Z))), ("print (x > y, z) > z", ((compare, Z), (">", Z))),
                ("print (x | getline, z) | z", ((("getline", "|", X, None), Z), ("|", Z))),
                ("print n[x > y]", ((("element", "n", (compare,)),), None)),
                ("print f(x > y) > z", ((("call", "f", (compare,)),), (">", Z))),
                ("print -(x > y)", ((("minus", compare),), None)), ("print x, y > z", ((X, Y), (">", Z))),
                ("print x = y > z", ((("set", X, Y),), (">", Z))),
                ("print x ? y : z > x", ((("choose", X, Y, Z),), (">", X))),
                ("print x in y > z", ((("in", (X,), "y"),), (">", Z))),
                ("print x >= y", ((("compare", ">=", X, Y),), None)),
                ("print x < y", ((("compare", "<", X, Y),), None)), ("print x < y > z",
                ((("compare", "<", X, Y),), (">", Z))), ("print x | y", ((X,), ("|", Y))),
                ("print (x | getline)", ((("getline", "|", X, None),), None)),
                ("print getline", ((("getline", "main", None, None),), None)),
                ("print getline x < y", ((("getline", "<", Y, X),), None)),
                ("print getline x > y", ((("getline", "main", None, X),), (">", Y))),
                ("print getline | x", ((("getline", "main", None, None),), ("|", X))),
                ("print x > y z", ((X,), (">", ("join", Y, Z)))), ("print x >> y + 1",
                ((X,), (">>", ("op", "+", Y, ONE)))),
                ("print x > (y > z)", ((X,), (">", ("compare", ">", Y, Z)))),
                ("print x > n[y > z]", ((X,), (">", ("element", "n", (("compare", ">", Y, Z),))))),
                ("print x || y > z", ((("or", X, Y),), (">", Z))), ("print x ~ y | z",
                ((("match", X, Y, False),), ("|", Z))), ("print x ||\ny", ((("or", X, Y),), None)),
                ("print x,\n\ny", ((X, Y), None)), ("print (x,\ny)", ((X, Y), None)),
                ("print !x > y", ((("not", X),), (">", Y)))]:
            self.assertEqual(body_of(source), (("print",) + tree,), source)
            self.assertEqual(body_of("printf" + source[5:]), (("printf",) + tree,), source)

    def test_what_may_not_stand(self):
        for source, number in [
                ("print x,", 4), ("print (x, y), z", 7), ("print (x, y) z", 7), ("print (x, y)(z)", 7),
                ("print (x, y) + z", 7), ("print x > y > z", 5), ("print x > y, z", 5),
                ("print x > y ? z : x", 5), ("print x | y | z", 5), ("print x | getline", 4), ("print x > getline", 4),
                ("print x > y ~ z", 5), ("print x > y < z", 5), ("print x > y = z", 5),
                ("print x ? y > z : x", 5), ("print x ? y | getline : x", 5), ("print x > y > z", 5),
                ("print x > (y, z) in x", 6), ("print x, (y, z)", 9), ("print (x, y) in", 8),
                ("print >", 3), ("print x >> >> y", 4), ("print x > y in z", 5), ("print !", 3), ("print (x,) > y", 5),
                ("print ()", 3), ("print (\nx)", 3), ("print x y, > z", 5)]:
            self.raises_with(NoProgram, "number", number, program_of, "{" + source + "}")
        for source, number in [("printf", 2), ("printf > x", 2), ("printf;", 2), ("printf ()", 3),
                ("printf (x, y) z", 7), ("printf x > y > z", 5)]:
            self.raises_with(NoProgram, "number", number, program_of, "{" + source + "}")


class TestItems(Case):

    def test_rules(self):
        for source, rules in [
                ("", ()), ("\n;;\n", ()), ("BEGIN { }", (("begin", ()),)), ("END { x }", (("end", (E,)),)),
                ("{ }", (("always", ()),)), ("x", (("when", X, None),)),
                ("x { }", (("when", X, ()),)), ("x\n{ }", (("when", X, None), ("always", ()))),
                ("x, y", (("range", X, Y, None),)), ("x, y { x }", (("range", X, Y, (E,)),)),
                ("x,\n\ny { }", (("range", X, Y, ()),)), ("{ } { } x { } y",
                (("always", ()), ("always", ()), ("when", X, ()), ("when", Y, None))),
                ("x; y; ; z\n", (("when", X, None), ("when", Y, None), ("when", Z, None))),
                ("BEGIN { } END { }", (("begin", ()), ("end", ()))), ("(x, y) in z",
                (("when", ("in", (X, Y), "z"), None),)),
                ("x y", (("when", ("join", X, Y), None),)), ("x > y", (("when", ("compare", ">", X, Y), None),)),
                ("/a/, /b/", (("range", ("pattern", "a"), ("pattern", "b"), None),)),
                ("x = y { }", (("when", ("set", X, Y), ()),)), ("BEGIN { } ; END { }\n", (("begin", ()), ("end", ()))),
                ("x; { }", (("when", X, None), ("always", ())))]:
            self.assertEqual(program_of(source), (rules, ()), source)

    def test_functions(self):
        for source, functions in [
                ("function f() { }", (("f", (), ()),)), ("function f () { x }", (("f", (), (E,)),)),
                ("function f(x) { }", (("f", ("x",), ()),)),
                ("function f(x, y,\n\nz)\n\n{ }", (("f", ("x", "y", "z"), ()),)),
                ("function f() { } function g() { }", (("f", (), ()), ("g", (), ()))),
                ("function f() { return x } ; ", (("f", (), (("return", X),)),)),
                ("function NR(x, x) { }", (("NR", ("x", "x"), ()),))]:
            self.assertEqual(program_of(source), ((), functions), source)
        self.assertEqual(program_of("x; function f() { } y { } function f() { }"),
                ((("when", X, None), ("when", Y, ())), (("f", (), ()), ("f", (), ()))))

    def test_what_may_not_stand(self):
        for source, number in [
                ("x } ", 1), ("x,; y", 2), ("x, y, z", 3), ("x { } , y", 3), ("BEGIN", 1), ("BEGIN\n{ }", 1),
                ("BEGIN x { }", 1), ("END;", 1), ("BEGIN, END { }", 1), ("function f { }", 2),
                ("function\nf() { }", 1), ("function f(\nx) { }", 3), ("function f(x\n) { }", 4),
                ("function f(x y) { }", 4), ("function f(x,) { }", 5), ("function f(,) { }", 3),
                ("function f(g(", 3), ("function f(1)", 3), ("function f();", 4), ("function f() x", 4),
                ("function in() { }", 1), ("function length() { }", 1), ("function (x)", 1),
                ("function f(in)", 3), ("print x", 0), ("next", 0), ("if (x) y", 0), ("} ", 0), (") ", 0), ("else", 0),
                ("x function f() { }", 1), ("{ } }", 2), ("{ } ) x", 2),
                ("x BEGIN { }", 1), ("x, \n { }", 3), ("in", 0)]:
            self.raises_with(NoProgram, "number", number, program_of, source)
        self.assertEqual(program_of("x\n + y")[0], (("when", X, None), ("when", ("plus", Y), None)))


POOL = ([("symbol", one) for one in list(SINGLES) + list(DOUBLES)] + [("key", key) for key in KEYS] + [("built",
        word) for word in BUILTS]
        + [("name", "x"), ("name", "n"), ("call", "f"), ("number", "1"), ("text", "t"), ("pattern", "p"),
        ("built", "length"), ("line", "\n")] * 5
        + [("symbol", one) for one in "(),;{}|<>?:$="] * 3 + [("text", mark) for mark in MARKS] + [("pattern",
        mark) for mark in MARKS if mark != "\n"])


class TestGrammar(Case):
    """The parser against a recognizer that knows nothing but the table of the grammar."""

    def setUp(self):
        self.table = grammar(True)
        self.program = Recognizer(self.table, "program")
        self.flat = grammar(False)
        self.expression = Recognizer(self.flat, "E")

    def mutated(self, words, rnd):
        words = list(words)
        for _ in range(rnd.choice([1, 1, 2])):
            at = rnd.randrange(len(words) + 1)
            deed = rnd.randrange(3)
            if deed == 0:
                words.insert(at, rnd.choice(POOL))
            elif deed == 1:
                words[at:at + 1] = [rnd.choice(POOL)]
            else:
                del words[at:at + 1]
        return words

    def hold(self, words, reader, recognizer, tree=None):
        """Holds what the parser says of some words against the recognizer."""
        if not are_words(words) or too_large(words):
            return
        source = shortest_source(words)
        try:
            found = reader(source)
        except TooLarge:
            return
        except NoProgram as error:
            self.assertEqual((error.number, False), recognizer.run(words), source)
            return
        self.assertEqual((len(words), True), recognizer.run(words), source)
        self.assertEqual(reader(source_of(words)), found)
        alone = any(first == ("built", "length") and second == ("symbol", "(") for first,
                second in zip(words, words[1:]))
        if tree is not None and not alone:
            self.assertEqual(found, tree, source)

    def test_sentences(self):
        rnd = random_of("sentences")
        programs = Maker(self.table, rnd)
        expressions = Maker(self.flat, rnd)
        for _ in range(250 * MANY):
            words, tree = programs.make("program", rnd.randrange(3, 60))
            if len(words) < 100:
                self.hold(words, program_of, self.program, tree)
                for _ in range(3):
                    self.hold(self.mutated(words, rnd), program_of, self.program)
            words, tree = expressions.make("E", rnd.randrange(3, 30))
            if len(words) < 100:
                self.hold(words, expression_of, self.expression, tree)
                for _ in range(3):
                    self.hold(self.mutated(words, rnd), expression_of, self.expression)

    def test_prints(self):
        rnd = random_of("prints")
        maker = Maker(self.table, rnd)
        for _ in range(150 * MANY):
            words, trees = maker.make("exprs", rnd.randrange(3, 40))
            more, out = maker.make("out", 3)
            ahead = [("symbol", "{"), ("key", "print")]
            self.hold(ahead + words + more + [("symbol", "}")], program_of, self.program,
                    ((("always", (("print", trees, out),)),), ()))
            for _ in range(3):
                self.hold(ahead + self.mutated(words + more, rnd) + [("symbol", "}")], program_of, self.program)

    def test_all_short_rows(self):
        """Each word behind each beginning of some programs."""
        words = sorted(set(POOL))
        for source in ["", "x", "{ print x", "{ print (x, y)", "getline", "getline x", "getline < x", "x | getline",
                "x | getline y", "(x", "(x, y", "(x, y)", "x ? y", "n[x", "f(x", "f(",
                       "length", "sub", "++x", "x++", "$x", "++", "$", "!x", "x ^ y", "x ~ y", "x < y", "x in n",
                       "x y", "x && y", "x || y", "x ? y : z", "x = y", "function f(x", "function f(x)",
                       "BEGIN", "x, y", "{ if (x) y", "{ if (x) ;", "{ if (x) {}", "{ do x", "{ do {}", "{ do x;",
                       "{ for (x in n", "{ for (x in n)", "{ for (;", "{ delete n", "{ exit", "{ next",
                       "{ print x > y", "{ print", "{ printf", "{ print x ? y", "{ x", "{ {}", "x {}", "(x)", "1",
                       "/a/", "\"a\"", "{ if (x) y\n", "{ if (x) y;", "{ if (x) y; else z"]:
            for word in words:
                self.hold(words_of(source) + [word], program_of, self.program)


class TestOrder(Case):

    def test_order(self):
        large = "(" * 31
        self.raises(InvalidSource, program_of, large + "%")
        self.raises_with(InvalidWord, "index", 33, program_of, large + ") &")
        self.raises_with(InvalidWord, "index", 33, expression_of, large + ") &")
        self.raises_with(InvalidWord, "index", 2, program_of, ") &")
        for source in [large, large + "]", "] " + large, "x " * 151 + ")", ") " + "x " * 151,
                "{" + "if (x) ;" * 61 + ")"]:
            self.raises(TooLarge, program_of, source)
            self.raises(TooLarge, expression_of, source)
        # Its words are not too large, but the printed text has more braces.
        nested = "{" + "if (x) " * 30 + "y }"
        self.raises(TooLarge, program_of, nested)
        self.raises_with(NoProgram, "number", len(words_of(nested)) - 1, program_of, nested[:-1] + ")")
        self.assertEqual(len(program_of("{" + "if (x) " * 28 + "y }")[0]), 1)

    def test_printed_expressions_too_large(self):
        # One word more for each unary sign of a join's right part, which gets brackets.
        source = "x" + " (-x)" * 37
        self.assertTrue(is_expression(expression_of(source)))
        self.raises(TooLarge, expression_of, "n[" * 29 + "x" + "]" * 29 + " length" * 60)
        self.raises(TooLarge, program_of, "n[1]" + " length" * 60)
        self.raises(NoProgram, expression_of, "n[1]" + " length" * 60 + ")")
        self.assertEqual(expression_text(expression_of("length " * 50)), " ".join(["length()"] * 50))

    def test_no_sources(self):
        for value in VALUES + ["%", "\r"]:
            if type(value) is not str or value in ("%", "\r"):
                self.raises(InvalidSource, program_of, value)
                self.raises(InvalidSource, expression_of, value)
        self.assertEqual(program_of(source="x"), program_of("x"))
        self.assertEqual(expression_of(source="x"), X)

    def test_limits(self):
        for source in ["x\n" * 6000, "{ x = x + 1 }\n" * 850, "function f() {}" * 800, ";" * 12000,
                "{" + "x;" * 5999 + "}", "{" + "if(x);else " * 27 + "x }" + "\n" * 11000,
                       "{" * 30 + "}" * 30, "{" * 28 + "print x\n" * 1400 + "}" * 28, "x = " * 74 + "x",
                       "- " * 149 + "x", "! " * 149 + "x", "x" + " ^ x" * 74, "(" * 30 + "x" + ")" * 30,
                       "x" + " + x" * 74, "$" * 149 + "x", "x ? x : " * 37 + "x", "x[" * 30 + "x" + "]" * 30,
                       "x | getline" + " | getline" * 73, "\"" + "a" * 11998 + "\""]:
            self.assertTrue(is_program(program_of(source)), source[:40])
        for source in ["(" * 12000, "x " * 6000, "{" * 6000, "if(" * 4000, "{" + "if(x);else\n" * 59 + "x }",
                "- " * 150 + "x", "x ?" * 4000, "{" + "do " * 3999]:
            self.raises(TooLarge, program_of, source)


class TestFacts(Case):

    def setUp(self):
        self.table = grammar(True)

    def some(self, *seed):
        """Sources of random programs, each with its program."""
        maker = Maker(self.table, random_of(*seed))
        rows = []
        for _ in range(150 * MANY):
            words, tree = maker.make("program", 30)
            if are_words(words) and len(words) < 120 and ("built", "length") not in words:
                rows.append((shortest_source(words), tree))
        return rows

    def test_b1_one_tree(self):
        """Sources with one printed text have one tree, and sources with one tree have one text."""
        seen = {}
        for source, tree in self.some("B1"):
            found = program_of(source)
            self.assertEqual(found, tree, source)
            text = program_text(found)
            self.assertEqual(seen.setdefault(text, found), found)
            self.assertEqual(program_of(text), found)

    def test_b4_programs_put_together(self):
        rows = self.some("B4")
        for (first, tree), (second, other) in zip(rows, rows[1:]):
            self.assertEqual(program_of(first + "\n" + second), (tree[0] + other[0], tree[1] + other[1]),
                    (first, second))

    def test_b5_functions_elsewhere(self):
        items = ["x", "y { z }", "function f(x) { return x }", "BEGIN { f(1) }", "function g() { }", "x, y",
                "{ print }"]
        rnd = random_of("B5")
        want = program_of("\n".join(items))
        for _ in range(40):
            rules = [item for item in items if "function" not in item]
            places_of = sorted(rnd.randrange(len(rules) + 1) for _ in range(2))
            rules.insert(places_of[0], items[2])
            rules.insert(places_of[1] + 1, items[4])
            self.assertEqual(program_of("\n".join(rules)), want)


if __name__ == "__main__":
    unittest.main()
