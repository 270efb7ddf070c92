"""[27], [29], [30] and the facts R2, R3: patterns and pattern texts."""

import unittest

import patterntexts
import slowpatterns
from patterndeeds.errors import NoPattern, TooLarge
from patterndeeds.matching import takes
from patterndeeds.patterns import ending, is_pattern, read_pattern, size, turned, written_pattern
from helper import MANY, VALUES, Case, Number, Row, Text, exchanged, leaf_paths, random_of
from slowpatterns import SIGNS, Patterns

A, B, ANY, BEGIN, END = ("sign", "a"), ("sign", "b"), ("any",), ("begin",), ("end",)
NONE = ("row", ())


def star(part):
    return ("repeat", part, 0, None)


def nested(many, part=A):
    """A pattern in whose written form so many brackets are nested."""
    for _ in range(many):
        part = star(part)
    return part


# Patterns of all kinds with their written forms.
WRITTEN = [(A, "a"), (ANY, "."), (BEGIN, "^"), (END, "$"), (NONE, ""), (("sign", "\n"), "\\n"), (("sign", "\t"), "\\t"),
           (("sign", "."), "\\."), (("sign", "]"), "]"), (("sign", "}"), "}"), (("sign", "/"), "/"),
           (("sign", "-"), "-"),
           (("row", (A, B)), "ab"), (("or", (A, B)), "a|b"), (("or", (A, NONE)), "a|"), (("or", (NONE, NONE)), "|"),
           (("or", (("row", (A, B)), NONE, B)), "ab||b"), (("row", (("or", (A, B)), A)), "(a|b)a"), (star(A), "a*"),
           (("repeat", A, 1, None), "a+"), (("repeat", A, 0, 1), "a?"), (("repeat", A, 0, 0), "a{0}"),
           (("repeat", A, 1, 1), "a{1}"), (("repeat", A, 3, 3), "a{3}"), (("repeat", A, 2, None), "a{2,}"),
           (("repeat", A, 0, 2), "a{0,2}"), (("repeat", A, 1, 30), "a{1,30}"), (("repeat", A, 30, None), "a{30,}"),
           (star(NONE), "()*"), (star(("row", (A, B))), "(ab)*"), (star(("or", (A, B))), "(a|b)*"),
           (star(star(A)), "(a*)*"),
           (star(BEGIN), "^*"), (star(END), "$*"), (star(ANY), ".*"), (("or", (star(A), B)), "a*|b"),
           (("row", (star(A), B)), "a*b"), (("row", (BEGIN, A, END)), "^a$"), (("class", "a"), "[a]"),
           (("class", "ab"), "[ab]"),
           (("class", "abc"), "[a-c]"), (("class", "abcx"), "[a-cx]"), (("class", "\t\n"), "[\\t\\n]"),
           (("class", "\t\n "), "[\\t- ]"), (("class", "-\\]^"), "[\\-\\\\-\\^]"), (("class", "]^"), "[\\]\\^]"),
           (("class", "\\"), "[\\\\]"), (("class", "$&"), "[$&]"), (("class", "$&'"), "[$-']"),
           (("class", "+,-"), "[+-\\-]"),
           (("class", ".[{"), "[.[{]"), (("class", "".join(SIGNS)), "[\\t-~]"),
           (("class", "".join(SIGNS[:48])), "[\\t-N]"),
           (("class", "".join(SIGNS[:49])), "[^P-~]"), (("class", "".join(SIGNS[1:])), "[^\\t]"),
           (("class", "".join(sign for sign in SIGNS if sign not in "ab")), "[^ab]")]

# Pattern texts that are read as something that is written otherwise.
READ = [("()", NONE), ("()()", NONE), ("a()", A), ("(a)", A), ("((a))", A), ("(ab)c", ("row", (A, B, ("sign", "c")))),
        ("(a|b)", ("or", (A, B))), ("(a|b)|c", ("or", (A, B, ("sign", "c")))),
        ("a|(b|(c|))", ("or", (A, B, ("sign", "c"), NONE))),
        ("(a)(b)", ("row", (A, B))), ("(a(b))", ("row", (A, B))), ("\\ ", ("sign", " ")), ("\\_", ("sign", "_")),
        ("\\\n", ("sign", "\n")), ("\n\t", ("row", (("sign", "\n"), ("sign", "\t")))), ("\\/", ("sign", "/")),
        ("]", ("sign", "]")),
        ("}", ("sign", "}")), ("a{2,2}", ("repeat", A, 2, 2)), ("a{0,}", star(A)), ("a{1,}", ("repeat", A, 1, None)),
        ("a{0,1}", ("repeat", A, 0, 1)), ("(a*)", star(A)), ("(a*)b", ("row", (star(A), B))),
        ("(a){2}", ("repeat", A, 2, 2)),
        ("[ba]", ("class", "ab")), ("[aab]", ("class", "ab")), ("[a-cb]", ("class", "abc")), ("[-a]", ("class", "-a")),
        ("[a-]", ("class", "-a")), ("[-]", ("class", "-")), ("[--]", ("class", "-")), ("[a\\-z]", ("class", "-az")),
        ("[^-]", ("class", "".join(sign for sign in SIGNS if sign != "-"))), ("[a^]", ("class", "^a")),
        ("[a-a]", ("class", "a")),
        ("[\\n\\t]", ("class", "\t\n")), ("[\t-\n]", ("class", "\t\n")), ("[\\]]", ("class", "]")),
        ("[[]", ("class", "[")),
        ("[(|)*+?{}.$]", ("class", "$()*+.?{|}")), ("[!-/]", ("class", "!\"#$&'()*+,-./")),
        ("[a-c-]", ("class", "-abc")),
        ("[-a-c]", ("class", "-abc")), ("[^^]", ("class", "".join(sign for sign in SIGNS if sign != "^"))),
        ("[\\--a]", ("class", "".join(sign for sign in SIGNS if "-" <= sign <= "a"))), ("[^\t-}]", ("class", "~")),
        ("[\t-~]", ("class", "".join(SIGNS))), ("(" * 12 + "a" + ")" * 12, A), ("(" * 12 + ")" * 12, NONE)]

# Texts that are no pattern texts, with the greatest number of first signs that go on.
NO_PATTERNS = [("*", 0), ("+", 0), ("?", 0), ("{", 0), (")", 0), ("a)", 1), ("a**", 2), ("a*+", 2), ("a*?", 2),
        ("a+{2}", 2),
               ("(*)", 1), ("a|*", 2), ("|?", 1), ("^**", 2), ("(", 1), ("(a", 2), ("x(a|[b", 6), ("a{2,1}", 5),
               ("a{2,1x", 5),
               ("a{", 2), ("a{}", 2), ("a{,3}", 2), ("a{x}", 2), ("a{ 1}", 2), ("a{1", 3), ("a{1x", 3), ("a{01}", 3),
               ("a{00", 3),
               ("a{31}", 3), ("a{30", 4), ("a{300}", 4), ("a{4}}", None), ("a{40}", 3), ("a{1,", 4), ("a{1,x", 4),
               ("a{1,01}", 4),
               ("a{1,31}", 5), ("a{1,3", 5), ("a{1,30", 6), ("a{1,300", 6), ("a{1,-", 4), ("a{5,4}", 4),
               ("a{5,2}", 5), ("[+--]", 3),
               ("a{5,0}", 4), ("a{0,0}", None), ("a{12,1}", 6), ("a{12,11}", 6), ("a{25,24}", 6), ("a{25,2", 6),
               ("a{20,1}", 5),
               ("a{30,2", 5), ("a{30,3}", 6), ("a{3,3", 5), ("\\", 1), ("a\\", 2), ("\\a", 1), ("\\1", 1), ("\\Z", 1),
               ("[", 1),
               ("[]", 1), ("[]]", 1), ("[^", 2), ("[^]", 2), ("[a", 2), ("[a-", 3), ("[c-a]", 3), ("[a-c", 4),
               ("[a-c-e]", 5),
               ("[a-c-", 5), ("[a--]", 3), ("[--a]", 3), ("[\\", 2), ("[\\a]", 2), ("[a\\", 3), ("[z-\\", 4),
               ("[z-\\]]", 4),
               ("[a-\\n]", 4), ("[\t-~", 4), ("[^\t-~]", 4), ("[^\t-", 4), ("[^\t-\\~]", 5), ("[^\t-}~]", 5),
               ("[^\t-,.-~-]", 8),
               ("[^\t-,.-~\\-]", 9), ("[^\t-9;-~9-:]", 10), ("[^\t-9;-~9-\\:]", 10), ("[^-\t-,.-~]", 8), ("[b-aa]", 3),
               ("(" * 13, 12), ("(" * 12, 12), ("(" * 13 + "a" + ")" * 13, 12), ("((((a)*)*)*", 11), ("a|b)", 3),
               ("(a))", 3)]


class TestRead(Case):

    def test_examples(self):
        self.assertEqual([read_pattern("a(b|.)*"), written_pattern(read_pattern("(ab)c|()")),
                          written_pattern(read_pattern("[-dcba]"))],
                         [("row", (A, star(("or", (B, ANY))))), "abc|", "[\\-a-d]"])
        for text, index in [("a{2,1}", 5), ("a**", 2), ("[c-a]", 3), ("x(a|[b", 6)]:
            self.raises_with(NoPattern, "index", index, read_pattern, text)

    def test_written_forms(self):
        for pattern, text in WRITTEN:
            self.assertEqual(written_pattern(pattern), text)
            self.assertEqual(read_pattern(text), pattern, text)
            self.assertIs(is_pattern(pattern), True, pattern)

    def test_other_texts(self):
        for text, pattern in READ:
            self.assertEqual(read_pattern(text), pattern, text)
            self.assertEqual(read_pattern(written_pattern(pattern)), pattern)
            self.assertEqual(ending(text), "")
            self.assertEqual(patterntexts.read(text), pattern, text)

    def test_no_patterns(self):
        for text, index in NO_PATTERNS:
            if index is None:
                self.assertEqual(read_pattern(text), patterntexts.read(text))
            else:
                self.raises_with(NoPattern, "index", index, read_pattern, text)
                self.check_ending(text, index)

    def check_ending(self, text, index):
        """An ending is there exactly if all of the text goes on, and makes a pattern text of it."""
        found = ending(text)
        self.assertEqual(found is not None, index == len(text), text)
        if found is not None:
            self.assertIsNotNone(patterntexts.read(text + found), (text, found))
        for cut in range(index + 1):
            self.assertIsNotNone(patterntexts.read(text[:cut] + ending(text[:cut])), text[:cut])

    def test_all_signs_as_items_and_in_classes(self):
        for sign in SIGNS:
            for text in [sign, "\\" + sign, "[" + sign, "[" + sign + "]", "[\\" + sign + "]", "[!-" + sign + "]",
                         "[" + sign + "-z]", "[^" + sign + "]", "a" + sign, "a{" + sign, "a{1" + sign, "a{1," + sign]:
                wanted = patterntexts.read(text)
                if wanted is None:
                    self.raises(NoPattern, read_pattern, text)
                else:
                    self.assertEqual(read_pattern(text), wanted, text)

    def test_random_texts(self):
        random = random_of("pattern texts")
        pieces = ["[^\t-9;-~9-", "[^\t-,.-~", "[^", "[\t-~]", "[^\t-~", "[^\t-}", "\\]", "a-c", "-", "]", "[", "{2,",
                "{1", "}", "(",
                  ")", "|", "*", "a", "\\n", "\\", "~", "!", "}-", "z-", ",3", "0"]
        alphabets = ["ab([|)]*+?{.^$\\-,0123}n\n\t", "[]^-ac\\z~\t!", "a{},0123 ", "()|a*", "".join(SIGNS)]
        read = 0
        for at in range(1500 * MANY):
            rows = pieces if random.random() < 0.4 else random.choice(alphabets)
            text = "".join(random.choice(rows) for _ in range(random.randrange(8)))
            wanted = patterntexts.read(text)
            if wanted is not None:
                read += 1
                self.assertEqual(read_pattern(text), wanted, text)
                self.assertEqual(ending(text), "")
            else:
                found = self.raises(NoPattern, read_pattern, text).index
                self.check_ending(text, found)
                if found < len(text) and at < 100 * MANY:
                    self.assertFalse(patterntexts.goes_on(text[:found + 1]), (text, found))
        self.assertGreater(read, 200)

    def test_too_large(self):
        for text, many in [("a{30}", 30), ("(a{30}){10}", 300), ("(a{15}){20}", 300), ("(ab|c){30,}", 90),
                ("a" * 300, 300),
                           ("(){30}", 30), ("(a{0}){30}", 30), ("((a|b)*){30}", 60), ("(a{30}){10}|", None),
                           ("(a{30}){11}", None), ("a" * 301, None), ("((a{30}){30}){30}", None), ("(a{0}){0}", 1)]:
            if many is None:
                self.raises(TooLarge, read_pattern, text)
                self.assertEqual(ending(text), "")
                self.assertIs(is_pattern(patterntexts.read(text)), False)
            else:
                self.assertEqual(size(read_pattern(text)), many)
        self.raises_with(NoPattern, "index", 301, read_pattern, "a" * 300 + "b)")
        self.assertEqual(ending("a" * 301 + "("), ")")


class TestPatterns(Case):

    def test_is_pattern(self):
        for pattern in [("sign", sign) for sign in SIGNS] + [nested(13), ("row", (nested(13), ANY)),
                ("or", (nested(13), nested(13))), ("row", (A,) * 300), ("or", (A,) * 300),
                ("row", (("or", (NONE, NONE)), A))]:
            self.assertIs(is_pattern(pattern), True, pattern)
            self.assertEqual(read_pattern(written_pattern(pattern)), pattern)

    def test_others(self):
        for value in VALUES + [("sign", ""), ("sign", "ab"), ("sign", "%"), ("sign", 1), ("sign", None), ("sign",),
                ("sign", "a", "b"),
                ("sign", Text("a")), ("any", None), ("begin", ()), ("end", "a"), ("class", ""), ("class", "ba"),
                ("class", "aa"),
                ("class", "a%"), ("class", 1), ("class", ("a", "b")), ("class", ["a"]), ("class",), ("row", (A,)),
                ("row",),
                ("row", [A, B]), ("row", (A, NONE)), ("row", (A, ("row", (A, B)))), ("row", (A, None)),
                ("row", (A, "b")), ("row", A),
                ("or", ()), ("or", (A,)), ("or", (A, ("or", (A, B)))), ("or", [A, B]), ("or", (A, B, 1)),
                ("repeat", A, 0),
                ("repeat", A, 0, 1, 2), ("repeat", A, -1, 1), ("repeat", A, 2, 1), ("repeat", A, 0, 31),
                ("repeat", A, 31, None),
                ("repeat", A, 31, 31), ("repeat", A, None, None), ("repeat", A, True, 1), ("repeat", A, 0, True),
                ("repeat", A, Number(0), 1), ("repeat", A, "0", 1), ("repeat", None, 0, 1), ("repeat", (), 0, 1),
                ["any"], "any",
                Row(("any",)), ("Any",), ("other", A), ("plus",), (("any",),), nested(14), ("row", (A,) * 301),
                ("or", (A,) * 301),
                ("row", (("or", (A, nested(13))), A)), ("repeat", ("repeat", ("repeat", A, 0, 30), 0, 30), 0, 1),
                ("repeat", ("row", (A,) * 11), 0, 30)]:
            self.assertIs(is_pattern(value), False, value)

    def test_deep_values(self):
        for tag in ["row", "or", "repeat"]:
            value = A
            for _ in range(31):
                value = (tag, (value, A)) if tag != "repeat" else (tag, value, 0, 1)
            self.assertIs(is_pattern(value), False)
        value = A
        for at in range(31):
            value = (["row", "or"][at % 2], (value, A))
        self.assertIs(is_pattern(value), False)

    def test_one_part_exchanged(self):
        random = random_of("exchanged")
        maker = Patterns(random)
        for _ in range(60 * MANY):
            pattern = maker.pattern(8)
            for path in leaf_paths(pattern):
                for worth in [None, "", "a", "row", "or", "any", 0, 1, 31, True, (), ("any",), A, NONE,
                        ("or", (A, B)), [A], A + A]:
                    value = exchanged(pattern, path, worth)
                    found = is_pattern(value)
                    self.assertIs(type(found), bool)
                    if found:
                        self.assertEqual(read_pattern(written_pattern(value)), value)
                    elif value is not None:
                        self.assertNotEqual(repr(self.read_again(value)), repr(value))

    def read_again(self, value):
        """What the written form of a value is read as, None if it has none or is too large."""
        try:
            text = written_pattern(value)
            return read_pattern(text) if size(value) <= 300 and type(text) is str else None
        except (NoPattern, TooLarge, TypeError, ValueError, IndexError, AttributeError, KeyError):
            return None

    def test_sizes(self):
        for pattern, many in [(A, 1), (ANY, 1), (("class", "abc"), 1), (BEGIN, 1), (NONE, 1), (("row", (A, B, A)), 3),
                (("or", (A, NONE)), 2), (star(A), 1), (("repeat", A, 5, None), 5), (("repeat", A, 0, 0), 1),
                (("repeat", A, 2, 7), 7),
                (("repeat", ("row", (A, B)), 0, 3), 6), (("repeat", ("repeat", A, 0, 0), 3, 3), 3),
                (("repeat", ("row", (A, B)), 0, 0), 2)]:
            self.assertEqual(size(pattern), many)

    def test_r2(self):
        """Without any one pair of its brackets a written form is no pattern text, or another pattern's."""
        maker = Patterns(random_of("R2"))
        pairs = 0
        for _ in range(500 * MANY):
            pattern = maker.pattern(maker.random.randrange(1, 10))
            text = written_pattern(pattern)
            self.assertEqual(read_pattern(text), pattern)
            self.assertEqual(patterntexts.read(text), pattern)
            waiting = []
            for at, sign in enumerate(text):
                if sign == "(":
                    waiting.append(at)
                elif sign == ")":
                    first = waiting.pop()
                    pairs += 1
                    self.assertNotEqual(patterntexts.read(text[:first] + text[first + 1:at] + text[at + 1:]), pattern)
        self.assertGreater(pairs, 100)

    def test_turned(self):
        for pattern, other in [(("row", (A, B, BEGIN)), ("row", (END, B, A))), (BEGIN, END), (NONE, NONE),
                (("repeat", ("row", (A, END)), 1, 3), ("repeat", ("row", (BEGIN, A)), 1, 3)),
                (("or", (("row", (A, B)), A)), ("or", (("row", (B, A)), A))), (("class", "ab"), ("class", "ab"))]:
            self.assertEqual(turned(pattern), other)
            self.assertEqual(turned(other), pattern)

    def test_r3(self):
        maker = Patterns(random_of("R3"))
        for _ in range(80 * MANY):
            pattern = maker.pattern(6)
            other = turned(pattern)
            self.assertIs(is_pattern(other), True)
            text = "".join(maker.random.choice("abc") for _ in range(5))
            for start in range(6):
                for end in range(start, 6):
                    self.assertIs(takes(pattern, text, start, end), takes(other, text[::-1], 5 - end, 5 - start))
                    self.assertIs(takes(pattern, text, start, end), slowpatterns.takes(pattern, text, start, end))


if __name__ == "__main__":
    unittest.main()
