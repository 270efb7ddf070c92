"""[6], [7], [8] and the facts A1 to A4: words."""

import unittest

from patterndeeds.errors import InvalidSource, InvalidWord, InvalidWords, NoProgram
from patterndeeds.parser import program_of
from patterndeeds.words import are_words, shortest_source, source_of, spots_of, too_large, words_of
from helper import MANY, VALUES, Case, Row, Rows, Text, random_of

KEYS = """BEGIN END function if else while do for in break continue next exit return delete print printf
getline""".split()
BUILTS = "length index substr split sub gsub match sprintf tolower toupper int close".split()
DOUBLES = "++ -- += -= *= /= @= ^= == != <= >= !~ && || >>".split()
SINGLES = list("{}()[];,+-*/@^!<>|?:~$=")
SIGNS = "\t\n" + "".join(chr(code) for code in range(32, 127) if code != 37)
# Pieces of sources, so that each kind of word, and much that is none, comes up often.
PIECES = ["x", "f", "(", ")", "[", "]", "{", "}", "/", "/=", "=", "\\", "\n", "\\\n", " ", "\t", "#", "\"", "1", ".",
          "1.5", "9" * 30, "&", "&&", "|", "||", "!", "!~", "~", "$", "getline", "in", "length", "\"a\"", "/b/", "_",
          "\\/", "\\\\", "n", "+", "++", "--", ">", ">>", "?", ":", ";", ",", "@", "^", "'", "`"]


def symbol(text):
    return ("symbol", text)


def name(text):
    return ("name", text)


def random_words(rnd, many):
    """A random list of words that some source has."""
    words = []
    while len(words) < many:
        word = rnd.choice([
            ("key", rnd.choice(KEYS)), ("built", rnd.choice(BUILTS)), ("name", rnd.choice(["x", "e1", "_", "BEGINN"])),
            ("call", rnd.choice(["f", "g2"])), ("number", rnd.choice(["1", "2.", ".3", "4.5", "007"])),
            ("text", "".join(rnd.choice(SIGNS) for _ in range(rnd.randrange(4)))),
            ("text", rnd.choice(["\\", "\"", "\n", "\t", "/", "\\n", "#"])),
            ("pattern", rnd.choice(["", "/", "a/b", "\\.", "\\\\", "\\\\/", "#", "\"", "[/]"])),
            ("symbol", rnd.choice(SINGLES)), ("symbol", rnd.choice(DOUBLES)), ("symbol", rnd.choice("()/=<>+")),
            ("line", "\n")])
        for row in [[word], [symbol("("), word], [name("x"), word]]:
            if are_words(words + row + [symbol("(")]):
                words.extend(row)
                break
    if words and words[-1][0] == "call":
        words.append(symbol("("))
    return words


class TestExamples(Case):

    def test_examples(self):
        self.assertEqual(
            [words_of("x /= 2 # half"), spots_of("x /= 2")],
            [[('name', 'x'), ('symbol', '/='), ('number', '2')], [(0, 1), (2, 4), (5, 6)]])
        self.assertEqual(
            [words_of("$1 ~ /a\\/b/"), words_of("x.5"), shortest_source(words_of("x = - 1 .5 > > +"))],
            [[('symbol', '$'), ('number', '1'), ('symbol', '~'), ('pattern', 'a/b')],
             [('name', 'x'), ('number', '.5')], 'x=-1 .5> >+'])
        self.raises_with(InvalidWord, "index", 4, words_of, "a = 1.2.3")


class TestKinds(Case):

    def test_keys_and_built_words(self):
        for word in KEYS:
            self.assertEqual(words_of(word), [("key", word)])
            self.assertEqual(words_of(word + "(")[0], ("key", word))
            self.assertEqual(words_of(word + "1"), [("name", word + "1")])
        for word in BUILTS:
            self.assertEqual(words_of(word), [("built", word)])
            self.assertEqual(words_of(word + "(")[0], ("built", word))
            self.assertEqual(words_of("_" + word), [("name", "_" + word)])

    def test_names_and_calls(self):
        for word in ["x", "_", "_1", "a_B9", "begin", "Length", "FNR"]:
            self.assertEqual(words_of(word), [("name", word)])
            self.assertEqual(words_of(word + "("), [("call", word), symbol("(")])
            self.assertEqual(words_of(word + " ("), [("name", word), symbol("(")])
            self.assertEqual(words_of(word + "\\\n("), [("name", word), symbol("(")])
            self.assertEqual(words_of(word + "#("), [("name", word)])

    def test_symbols(self):
        for text in DOUBLES + SINGLES:
            if text not in ("/", "/="):
                self.assertEqual(words_of(text), [symbol(text)])
                self.assertEqual(spots_of(" " + text), [(1, 1 + len(text))])
        self.assertEqual(words_of("+++--"), [symbol("++"), symbol("+"), symbol("--")])
        self.assertEqual(words_of("===!==!~"), [symbol("=="), symbol("="), symbol("!="), symbol("="), symbol("!~")])
        self.assertEqual(words_of(">>>=<=|||&&"), [symbol(one) for one in [">>", ">=", "<=", "||", "|", "&&"]])
        self.assertEqual(words_of("^=@=*=-=+=^@"), [symbol(one) for one in ["^=", "@=", "*=", "-=", "+=", "^", "@"]])

    def test_no_words(self):
        for source in ["&", "'", "`", "\\", ".", "\"", "/", "\\ \n", "\"\n\"", "/\n/", "\\x", "..", "._"]:
            for ahead in ["", "x = ", "1\n", "(\t", "/a/ , "]:
                self.raises_with(InvalidWord, "index", len(ahead), words_of, ahead + source)
                self.raises_with(InvalidWord, "index", len(ahead), spots_of, ahead + source)
        self.raises_with(InvalidWord, "index", 2, words_of, "&&&")
        self.raises_with(InvalidWord, "index", 2, words_of, "a &b")

    def test_numbers(self):
        for text in ["0", "00", "12", "1.", ".1", "1.5", "0" * 60, "9" * 60, "9" * 30 + "." + "9" * 30, "." + "1" * 60,
                     "1" * 60 + "."]:
            self.assertEqual(words_of(text), [("number", text)])
            self.assertEqual(words_of(text + " x"), [("number", text), name("x")])
            self.assertEqual(words_of("x" + text if text[0] == "." else "+" + text)[-1], ("number", text))
        for text in ["0" * 61, "9" * 61, "9" * 30 + "." + "9" * 31, "." + "1" * 61, "1" * 61 + ".", "1x", "1_", "1.x",
                ".1_",
                     "1..", "1.2.", "1.2.3", ".1.", "1e5", "..1", "1" * 61 + "x"]:
            self.raises_with(InvalidWord, "index", 0, words_of, text)
            self.raises_with(InvalidWord, "index", 2, words_of, "+ " + text + " 1")
        self.assertEqual(words_of("1 .5"), [("number", "1"), ("number", ".5")])
        self.assertEqual(words_of("x.5"), [name("x"), ("number", ".5")])

    def test_texts(self):
        for source, text in [('""', ""), ('"a"', "a"), ('"\\\\"', "\\"), ('"\\""', "\""), ('"\\/"', "/"), ('"/"', "/"),
                             ('"\\n\\t"', "\n\t"), ('"\t"', "\t"), ('"#"', "#"), ("\"'\"", "'"), ('"\\\\n"', "\\n")]:
            self.assertEqual(words_of(source), [("text", text)])
            self.assertEqual(words_of(source + source), [("text", text)] * 2)
            self.assertEqual(spots_of(" " + source), [(1, 1 + len(source))])
        for source in ['"', '"a', '"\n"', '"a\nb"', '"\\"', '"\\a"', '"\\\n"', '"\\ "', '"\\N"', '"\\0"', '"\\\\\\"']:
            self.raises_with(InvalidWord, "index", 3, words_of, "x =" + source)

    def test_slashes(self):
        for closing in ["x", "length", "getline", "1", ".5", "\"a\"", ")", "]", "++", "--", "x ", "x\\\n"]:
            self.assertEqual(words_of(closing + "/ 2 /")[-3:], [symbol("/"), ("number", "2"), symbol("/")])
            self.assertEqual(words_of(closing + "/= 2")[-2:], [symbol("/="), ("number", "2")])
            self.assertEqual(words_of(closing + "//a/")[-2:], [symbol("/"), ("pattern", "a")])
        for other in ["", "x\n", "x #\n", "(", "[", "{", "}", ";", ",", "+", "-", "!", "~", "print", "in", "=", "$",
                "?", ":", "<",
                      "x/", "x/=", "function", "return", "+=", "&&"]:
            self.assertEqual(words_of(other + "/ 2 /")[-1], ("pattern", " 2 "))
            self.assertEqual(words_of(other + "/= 2/")[-1], ("pattern", "= 2"))
            self.assertEqual(words_of(other + "//")[-1], ("pattern", ""))
        self.assertEqual(words_of("/a//2"), [("pattern", "a"), symbol("/"), ("number", "2")])
        self.assertEqual(words_of("f(/a/)/b"), [("call", "f"), symbol("("), ("pattern", "a"), symbol(")"), symbol("/"),
                name("b")])

    def test_patterns(self):
        for source, text in [("//", ""), ("/a/", "a"), ("/\\//", "/"), ("/\\./", "\\."), ("/\\\\/", "\\\\"),
                             ("/\\\\\\//", "\\\\/"), ("/[\\/]/", "[/]"), ("/[/", "["), ("/\"#/", "\"#"), ("/\t/", "\t"),
                             ("/\\\\\\./", "\\\\\\."), ("/\\a\\/\\b/", "\\a/\\b"), ("/(/", "(")]:
            self.assertEqual(words_of(source), [("pattern", text)])
            self.assertEqual(spots_of("!" + source), [(0, 1), (1, 1 + len(source))])
        for source in ["/", "/a", "/\\/", "/\n/", "/a\\\n/", "/\\", "/\\\\\\/", "/a\\"]:
            self.raises_with(InvalidWord, "index", 1, words_of, "!" + source)

    def test_blanks_and_remarks(self):
        self.assertEqual(words_of(" \t x\t \ty "), [name("x"), name("y")])
        self.assertEqual(words_of("x\\\ny"), [name("x"), name("y")])
        self.assertEqual(words_of("\\\n\\\n"), [])
        self.assertEqual(words_of("x # y\n"), [name("x"), ("line", "\n")])
        self.assertEqual(words_of("#\\\nx"), [("line", "\n"), name("x")])
        self.assertEqual(words_of("#\"'&\\"), [])
        self.assertEqual(words_of("x#"), [name("x")])
        self.assertEqual(words_of("\n\n"), [("line", "\n")] * 2)
        self.assertEqual(spots_of(" x\\\ny#z\n"), [(1, 2), (4, 5), (7, 8)])
        self.raises_with(InvalidWord, "index", 1, words_of, "x\\ \ny")

    def test_sources_that_are_no_texts(self):
        for value in VALUES + ["a%", "\x00", "\r", "\x7f", "\u00e9", Text("x"), b"x"]:
            if type(value) is not str or value not in ("", "x"):
                self.raises(InvalidSource, words_of, value)
                self.raises(InvalidSource, spots_of, value)
        for sign in SIGNS:
            self.assertEqual(words_of("#" + sign)[:1], [("line", "\n")] if sign == "\n" else [])


class TestAreWords(Case):

    def test_single_words(self):
        good = [("key", one) for one in KEYS] + [("built", one) for one in BUILTS]
        good += [symbol(one) for one in DOUBLES + SINGLES if one not in ("/", "/=")]
        good += [name("x"), name("_"), ("number", "1"), ("number", "9" * 60), ("number", "." + "9" * 60), ("text", ""),
                 ("text", SIGNS), ("pattern", ""), ("pattern", "/"), ("pattern", "\\\\"), ("pattern", "\\\\/"),
                 ("line", "\n")]
        for word in good:
            self.assertIs(are_words([word]), True, word)
        bad = [("key", "x"), ("key", ""), ("key", "length"), ("built", "x"), ("built", "in"), ("name", "in"),
                ("name", "sub"),
               ("name", ""), ("name", "1x"), ("name", "x y"), ("name", "\u00e9"), ("name", "x\u00e9"),
               ("name", "x\u0661"), ("call", "f"), ("number", ""), ("number", "."),
               ("number", "1.2.3"), ("number", "9" * 61), ("number", "-1"), ("number", "1e5"), ("number", "\u0661"),
               ("number", "\u00b2"), ("text", "%"), ("text", "\r"), ("pattern", "\n"), ("pattern", "\\"),
               ("pattern", "\\/"), ("pattern", "\\\\\\"),
               ("pattern", "%"), ("pattern", "\\\\\\/"), ("symbol", "&"), ("symbol", ""), ("symbol", "/"),
               ("symbol", "/="),
               ("symbol", "=>"), ("line", ""), ("line", "\n\n"), ("line", "x"), ("word", "x"), ("", ""), ["name", "x"],
               ("name", "x", "y"), ("name",), (), Row(("name", "x")), ("name", Text("x")), (Text("name"), "x"),
               ("name", None),
               (None, "x"), (["name"], "x"), ("name", ["x"]), "name", None, 1]
        for word in bad:
            self.assertIs(are_words([word]), False, word)
            self.assertIs(are_words([name("x"), word, name("x")] if word not in [symbol("/"), symbol("/=")]
                                    else [symbol("+"), word]), False, word)

    def test_kinds_of_values_are_exact(self):
        for kind, text in [("key", "in"), ("built", "int"), ("name", "x"), ("call", "x"), ("number", "1"),
                ("text", "x"), ("pattern", "x"), ("symbol", "+"), ("line", "\n"), ("other", "x")]:
            for other in [None, 1, True, [], [text], (text,), {}, Text(text), text.encode()]:
                self.assertIs(are_words([(kind, other)]), False, (kind, other))
                self.assertIs(are_words([(other, text)]), False, (other, text))
            self.assertIs(are_words([(Text(kind), text)]), False)
            self.assertIs(are_words([[kind, text]]), False)

    def test_lists(self):
        self.assertIs(are_words([]), True)
        for value in VALUES:
            want = type(value) is list and value in ([], [("name", "x")], [("line", "\n")])
            self.assertIs(are_words(value), want, value)
        for value in [(), (name("x"),), Rows([name("x")])]:
            self.assertIs(are_words(value), False)

    def test_neighbours(self):
        closing = [name("x"), ("built", "int"), ("number", "1"), ("text", ""), ("pattern", ""), ("key", "getline"),
                   symbol(")"), symbol("]"), symbol("++"), symbol("--")]
        other = [("key", key) for key in KEYS if key != "getline"] + [("line", "\n")]
        other += [symbol(one) for one in DOUBLES + SINGLES if one not in (")", "]", "++", "--", "/", "/=")]
        for word in closing:
            self.assertIs(are_words([word, symbol("/")]), True)
            self.assertIs(are_words([word, symbol("/=")]), True)
            self.assertIs(are_words([word, ("pattern", "a")]), False)
        for word in other:
            self.assertIs(are_words([word, symbol("/")]), False, word)
            self.assertIs(are_words([word, symbol("/=")]), False, word)
            self.assertIs(are_words([word, ("pattern", "a")]), True, word)
        for sign in ["/", "/="]:
            self.assertIs(are_words([name("x"), symbol(sign), ("pattern", "a")]), True)
            self.assertIs(are_words([name("x"), symbol(sign), symbol("/")]), False)
        for word in closing + other + [("call", "g")]:
            if word != symbol("("):
                self.assertIs(are_words([("call", "f"), word, symbol("(")]), False, word)
        self.assertIs(are_words([("call", "f"), symbol("(")]), True)
        self.assertIs(are_words([("call", "f")]), False)
        self.assertIs(are_words([name("f"), symbol("(")]), True)
        for text in ["/", "/="]:
            for ahead in [[], [symbol("+")], [("line", "\n")]]:
                self.assertIs(are_words(ahead + [("text", text)]), True)
                self.assertIs(are_words(ahead + [("pattern", text)]), True)

    def test_errors(self):
        bad = [value for value in VALUES if not are_words(value)] + [[("call", "f")], [symbol("/")], (name("x"),)]
        for value in bad:
            for action in [too_large, source_of, shortest_source]:
                self.raises(InvalidWords, action, value)


class TestTooLarge(Case):

    def test_open_brackets(self):
        for opening in "([{?":
            self.assertIs(too_large([symbol(opening)] * 30), False)
            self.assertIs(too_large([symbol(opening)] * 31), True)
        for closing in ")]}:":
            words = [symbol("(")] * 20 + [symbol(closing)] * 19 + [symbol("[")] * 29
            self.assertIs(too_large(words), False)
            self.assertIs(too_large(words + [symbol("?")]), True)
            self.assertIs(too_large([symbol(closing)] * 50 + [symbol("{")] * 30), False)
            self.assertIs(too_large([symbol(closing)] * 50 + [symbol("{")] * 31), True)
        self.assertIs(too_large([("text", "(")] * 60), False)
        for other in [one for one in SINGLES + DOUBLES if one not in "()[]{}?:/" and one != "/="] + ["(", "?"]:
            words = [symbol("(")] * 29 + [symbol(other)] + [symbol("(")] * (1 if other not in "(?" else 0)
            self.assertIs(too_large(words), False)
            self.assertIs(too_large(words + [symbol("(")]), True, other)
        for word in [("text", ")"), ("pattern", ")"), ("line", "\n")]:
            self.assertIs(too_large([symbol("(")] * 30 + [word] + [symbol("(")]), True)

    def test_words_in_a_row(self):
        for parting in [symbol(";"), ("line", "\n"), symbol("{"), symbol("}")]:
            for ahead, behind in [([], [parting]), ([parting], []), ([parting], [parting]), ([], [])]:
                self.assertIs(too_large(ahead + [name("x")] * 150 + behind), False)
                self.assertIs(too_large(ahead + [name("x")] * 151 + behind), True)
        for other in [symbol(","), ("text", ";"), ("text", "\n"), symbol(")")]:
            self.assertIs(too_large([name("x")] * 100 + [other] + [name("x")] * 49), False)
            self.assertIs(too_large([name("x")] * 100 + [other] + [name("x")] * 50), True)

    def test_heads(self):
        row = [("key", "if"), ("key", "while"), ("key", "do"), ("key", "for")] * 15
        for opening, closing in ["()", "[]", "{}", "?:"]:
            self.assertIs(too_large([symbol(opening)] + row), False)
            self.assertIs(too_large([symbol(opening)] + row + [("key", "else"), ("line", "\n")]), False)
            for key in ["if", "while", "do", "for"]:
                self.assertIs(too_large([symbol(opening)] + row + [("key", key)]), True)
                whole = [symbol(opening)] + row + [symbol(closing), ("key", key), symbol(opening), ("key", key)]
                self.assertIs(too_large(whole), False)
                inner = [symbol(opening)] * 2 + row + [symbol(closing), ("key", key)]
                self.assertIs(too_large(inner), True)
        self.assertIs(too_large(row + row), False)
        self.assertIs(too_large([symbol("{")] + row + [symbol("}"), symbol("{")] + row + [symbol("}")]), False)
        self.assertIs(too_large([symbol("{")] + row + [symbol("}"), symbol("{")] + row + [("key", "if")]), True)
        self.assertIs(too_large(row + [symbol("{")] + row + [symbol("}")] + row), False)
        for word in [("text", "if"), ("pattern", "do"), ("key", "else"), ("key", "in"), ("key", "print")]:
            self.assertIs(too_large([symbol("{")] + [symbol("="), word] * 61), False)
        self.assertIs(too_large([symbol("{")] + row[:59] + [name("x")] * 3 + [("key", "in")]), False)

    def test_limits_from_sources(self):
        self.assertIs(too_large(words_of("(" * 30)), False)
        self.assertIs(too_large(words_of("x ? " * 31)), True)
        self.assertIs(too_large(words_of("x " * 150 + "\n" + "x " * 150)), False)


class TestWriting(Case):

    def test_source_of(self):
        self.assertEqual(source_of([]), "")
        self.assertEqual(source_of(words_of("x=y")), "x = y")
        self.assertEqual(source_of(words_of("f(a)(b)")), "f( a ) ( b )")
        self.assertEqual(source_of(words_of("f (a)")), "f ( a )")
        self.assertEqual(source_of(words_of("\nx\n\ny z\n")), "\nx\n\ny z\n")
        self.assertEqual(source_of([("text", "\\\"\n\t/")]), "\"\\\\\\\"\\n\t/\"")
        self.assertEqual(source_of([("pattern", "a/b\\.\\\\/")]), "/a\\/b\\.\\\\\\//")
        self.assertEqual(source_of([symbol("+"), symbol("+")]), "+ +")

    def test_shortest_source(self):
        for source, short in [
                ("x y", "x y"), ("x 1", "x 1"), ("x .5", "x.5"), ("x _", "x _"), ("x (", "x ("), ("f(", "f("),
                ("x \"\"", "x\"\""), ("in x", "in x"), ("in (", "in("), ("in .5", "in.5"), ("length (", "length("),
                ("length x", "length x"), ("int 5", "int 5"), ("1 x", "1 x"), ("1 2", "1 2"), ("1 .", None),
                ("1 .5", "1 .5"),
                ("1. 5", "1. 5"), ("1 in", "1 in"), ("1 (", "1("), ("1 \"\"", "1\"\""), ("\"\" x", "\"\"x"),
                ("+ +", "+ +"),
                ("+ ++", "+ ++"), ("++ +", "+++"), ("+ =", "+ ="), ("+ == ", "+ =="), ("++ =", "++="), ("- -1", "- -1"),
                ("< =", "< ="), ("! ~", "! ~"), ("! ==", "! =="), ("| |", "| |"), ("> >>", "> >>"), (">> >", ">>>"),
                ("x / = 1", "x/ =1"), ("x / /=/", "x//=/"), ("x = /a/", "x=/a/"), (") x", ")x"), ("] (", "]("),
                ("x \n y", "x\ny"),
                ("= =", "= ="), ("& &", None), ("> = x", "> =x"), ("^ =", "^ ="), ("@ =", "@ ="), ("* =", "* =")]:
            if short is not None:
                self.assertEqual(shortest_source(words_of(source)), short)

    def test_blanks_that_are_not_needed(self):
        for words, short in [([("text", "+"), symbol("=")], "\"+\"="), ([("pattern", "="), symbol("=")], "/=/="),
                ([symbol("++"), symbol("=")], "++="), ([symbol("=="), symbol("=")], "==="),
                             ([symbol("<="), symbol("=")], "<=="), ([("text", "x"), name("x")], "\"x\"x"),
                             ([symbol(")"), ("number", "1")], ")1"), ([symbol("$"), name("x")], "$x")]:
            self.assertEqual(shortest_source(words), short)
            self.assertEqual(words_of(short), words)

    def test_both_are_read_back_and_none_is_shorter(self):
        rnd = random_of("A1")
        for _ in range(300 * MANY):
            words = random_words(rnd, rnd.randrange(1, 20))
            self.assertTrue(are_words(words))
            self.assertEqual(words_of(source_of(words)), words)
            short = shortest_source(words)
            self.assertEqual(words_of(short), words)
            for (_, end), (start, _) in zip(spots_of(short), spots_of(short)[1:]):
                self.assertLessEqual(start - end, 1)
                if start > end:
                    self.assertNotEqual(read(short[:end] + short[start:]), words)

    def test_pairs_of_words(self):
        words = [("key", "in"), ("key", "getline"), ("built", "length"), name("x"), name("E5"), ("number", "1"),
                ("number", "2."),
                 ("number", ".3"), ("text", "a"), ("pattern", "="), ("line",
                 "\n")] + [symbol(one) for one in DOUBLES + SINGLES]
        for first in words:
            for second in words:
                for row in [[first, second], [symbol("("), first, second], [name("x"), first, second]]:
                    if are_words(row):
                        self.assertEqual(words_of(shortest_source(row)), row)
                        self.assertEqual(words_of(source_of(row)), row)


def read(source):
    """The words of a source, None if it has none."""
    try:
        return words_of(source)
    except InvalidWord:
        return None


def random_source(rnd):
    return "".join(rnd.choice(PIECES) for _ in range(rnd.randrange(1, 14)))


class TestFacts(Case):

    def test_a2_sources_put_together(self):
        rnd = random_of("A2")
        found = 0
        for _ in range(2000 * MANY):
            first, second = random_source(rnd), random_source(rnd)
            if read(first) is not None and read(second) is not None:
                found += 1
                self.assertEqual(words_of(first + "\n" + second), words_of(first) + [("line", "\n")] + words_of(second))
        self.assertGreater(found, 100)

    def test_a3_what_changes_no_word(self):
        rnd = random_of("A3")
        for _ in range(400 * MANY):
            words = random_words(rnd, rnd.randrange(1, 12))
            source = rnd.choice([source_of, shortest_source])(words)
            at = rnd.randrange(len(words))
            start, end = spots_of(source)[at]
            if words[at][0] != "call":
                for blank in [" ", "\t", "\\\n", " \t\\\n "]:
                    self.assertEqual(words_of(source[:end] + blank + source[end:]), words)
            if words[at][0] == "line":
                self.assertEqual(words_of(source[:start] + "# x \" / \\" + source[start:]), words)
            self.assertEqual(words_of(source + "#" + "\\"), words)

    def test_a4_what_stands_ahead(self):
        rnd = random_of("A4")
        found = 0
        for _ in range(3000 * MANY):
            source = random_source(rnd)
            try:
                words = words_of(source)
                spots = spots_of(source)
                self.assertEqual(len(words), len(spots))
                for (start, end), (behind, _) in zip(spots, spots[1:] + [(len(source), 0)]):
                    self.assertTrue(0 <= start < end <= behind)
            except InvalidWord as error:
                found += 1
                ahead = words_of(source[:error.index])
                self.raises_with(InvalidWord, "index", error.index, spots_of, source)
                # With something behind that is a word there, the words ahead stay the same.
                self.assertEqual(words_of(source[:error.index] + "\n")[:-1], ahead)
        self.assertGreater(found, 500)

    def test_a4_by_hand(self):
        self.assertEqual(words_of("a = 1.2.3"[:4]), [name("a"), symbol("=")])
        self.assertEqual(words_of("f(x) & y"[:5]), [("call", "f"), symbol("("), name("x"), symbol(")")])
        self.raises_with(InvalidWord, "index", 5, words_of, "f(x) & y")


class TestLongSources(Case):

    def test_at_the_limit(self):
        for source in ["x " * 6000, "\n" * 12000, "#" * 12000, "\"" + "a" * 11998 + "\"", "/" + "a" * 11998 + "/",
                       "+" * 12000, "x\\\n" * 4000, "\\\n" * 6000]:
            words = words_of(source)
            self.assertEqual(len(spots_of(source)), len(words))
            self.assertIn(too_large(words), (True, False))
            self.assertEqual(words_of(shortest_source(words)), words)
        self.raises_with(InvalidWord, "index", 0, words_of, "\"" + "\\" * 11999)
        self.raises_with(InvalidWord, "index", 0, words_of, "1" * 12000)
        self.raises(NoProgram, program_of, "x\n" * 5999 + ")")


if __name__ == "__main__":
    unittest.main()
