"""[32]: what the built-in words without a state tell."""

import unittest

import slowvalues
from patterndeeds.errors import RunError
from patterndeeds.matching import found
from patterndeeds.patterns import read_pattern
from patterndeeds.texts import built, match_places, pattern_of
from helper import MANY, Case, random_of
from slowpatterns import Patterns
from test_values import SOME, random_value

HELLO = ("text", "hello")


def number(top, bottom=1):
    return ("number", top, bottom)


def text(one):
    return ("text", one)


class TestBuilt(Case):

    def test_examples(self):
        self.assertEqual([built("substr", [HELLO, number(2), number(3)]),
                built("substr", [HELLO, number(3, 2), number(1)])],
                         [("text", "ell"), ("text", "e")])
        self.assertEqual([built("index", [HELLO, text("l")]), match_places(read_pattern("l+"), "hello")],
                [number(3), (3, 2)])

    def test_length(self):
        for one, many in [(text(""), 0), (HELLO, 5), (("seen", "a b\n"), 4), (("unset",), 0), (number(0), 1),
                (number(-7, 2), 4),
                (number(1, 3), 8), (text("a" * 4000), 4000), (number(10 ** 60), 61)]:
            self.assertEqual(built("length", [one]), number(many))

    def test_index(self):
        for one, other, at in [("hello", "l", 3), ("hello", "lo", 4), ("hello", "hello", 1), ("hello", "x", 0),
                ("hello", "", 0),
                ("", "", 0), ("", "a", 0), ("ab", "abc", 0), ("aab", "ab", 2)]:
            self.assertEqual(built("index", [text(one), ("seen", other)]), number(at))
        self.assertEqual(built("index", [number(1, 3), number(3)]), number(3))
        self.assertEqual(built("index", [number(5), ("unset",)]), number(0))

    def test_substr(self):
        far = number(10 ** 40)
        for values, made in [([number(1)], "hello"), ([number(0)], "hello"), ([number(-5)], "hello"),
                ([number(5)], "o"),
                ([number(6)], ""), ([far], ""), ([number(-10 ** 40)], "hello"), ([number(3, 2)], "ello"),
                ([number(9, 5)], "ello"),
                ([number(1), number(0)], ""), ([number(1), number(-1)], ""), ([number(1), far], "hello"),
                ([number(2), number(2)], "el"),
                ([number(0), number(2)], "h"), ([number(-1), number(3)], "h"), ([number(-1), number(2)], ""),
                ([number(-10 ** 40), far], ""),
                ([number(-10 ** 40), number(10 ** 40 + 3)], "he"), ([number(3, 2), number(1)], "e"),
                ([number(3, 2), number(1, 2)], ""),
                ([number(3, 2), number(3, 5)], "e"), ([number(1, 2), number(1)], "h"), ([number(1), number(1, 2)], "h"),
                ([number(2), number(1, 10 ** 60)], "e"), ([text("2x"), ("seen", " 2 ")], "el"),
                ([("unset",), ("unset",)], ""),
                ([text("4" * 40)], ""), ([text("-" + "4" * 40), text("4" * 39 + "6")], "h"),
                ([number(4), number(9)], "lo"),
                ([number(5), number(1)], "o"), ([number(6), number(1)], "")]:
            self.assertEqual(built("substr", [HELLO] + values), text(made), values)
        self.assertEqual(built("substr", [number(-7, 2), number(2), number(2)]), text("3."))
        self.assertEqual(built("substr", [text(""), number(1)]), text(""))

    def test_cases(self):
        signs = "".join(chr(code) for code in range(32, 127) if code != 37) + "\n\t"
        lower = "".join(chr(ord(one) + 32) if "A" <= one <= "Z" else one for one in signs)
        upper = "".join(chr(ord(one) - 32) if "a" <= one <= "z" else one for one in signs)
        self.assertEqual(built("tolower", [text(signs)]), text(lower))
        self.assertEqual(built("toupper", [("seen", signs)]), text(upper))
        self.assertEqual(built("toupper", [number(1, 3)]), text("0.333333"))
        self.assertEqual(built("tolower", [("unset",)]), text(""))

    def test_int(self):
        for one, made in [(number(7, 2), 3), (number(-7, 2), -3), (text("-0.9x"), 0), (("seen", "12"), 12),
                (("unset",), 0), (HELLO, 0)]:
            self.assertEqual(built("int", [one]), number(made))
        self.raises_with(RunError, "word", "great", built, "int", [text("1" + "0" * 61)])

    def test_sprintf(self):
        self.assertEqual(built("sprintf", [text("a")]), text("a"))
        self.assertEqual(built("sprintf", [text("@d-@s"), text("5x"), HELLO, HELLO]), text("5-hello"))
        self.assertEqual(built("sprintf", [number(-7, 2)]), text("-3.5"))
        self.raises_with(RunError, "word", "format", built, "sprintf", [text("@d")])
        self.raises_with(RunError, "word", "format", built, "sprintf", [text("@"), HELLO])
        self.raises_with(RunError, "word", "long", built, "sprintf", [text("@s@s"), text("a" * 4000), HELLO])

    def test_against_the_slow_way(self):
        random = random_of("built")
        for _ in range(1500 * MANY):
            word = random.choice(["length", "index", "substr", "substr", "tolower", "toupper", "int"])
            many = {"index": 2, "substr": random.choice([2, 3])}.get(word, 1)
            values = [random.choice([random.choice(SOME), random_value(random)]) for _ in range(many)]
            if word == "substr":
                values[1:] = [number(random.randrange(-4, 9), random.choice([1, 1])) for _ in values[1:]]
            kept = list(values)
            try:
                wanted = slowvalues.built(word, values)
            except slowvalues.Failed as failed:
                self.raises_with(RunError, "word", failed.word, built, word, values)
            else:
                self.assertEqual(built(word, values), wanted, (word, values))
            self.assertEqual(values, kept)


class TestPatternTexts(Case):

    def test_pattern_of(self):
        self.assertEqual(pattern_of(text("a|b")), ("or", (("sign", "a"), ("sign", "b"))))
        self.assertEqual(pattern_of(("seen", "^")), ("begin",))
        self.assertEqual(pattern_of(("unset",)), ("row", ()))
        self.assertEqual(pattern_of(number(-7, 2)), read_pattern("-3.5"))
        self.assertEqual(pattern_of(text("a" * 300)), ("row", (("sign", "a"),) * 300))
        for one in ["(", "a**", "[", "a{2,1}", "\\a", "a" * 301, "(a{30}){11}", ")", "a" * 301 + ")"]:
            self.raises_with(RunError, "word", "pattern", pattern_of, text(one))

    def test_match_places(self):
        for form, one, places in [("l+", "hello", (3, 2)), ("x", "hello", (0, -1)), ("", "hello", (1, 0)),
                ("$", "hello", (6, 0)),
                ("", "", (1, 0)), ("a", "", (0, -1)), (".*", "hello", (1, 5)), ("o|l", "hello", (3, 1)),
                ("x*", "ax", (1, 0))]:
            self.assertEqual(match_places(read_pattern(form), one), places)
        maker = Patterns(random_of("places"))
        for _ in range(200 * MANY):
            pattern = maker.pattern(5)
            one = "".join(maker.random.choice("ab") for _ in range(5))
            stretch = found(pattern, one)
            wanted = (0, -1) if stretch is None else (stretch[0] + 1, stretch[1] - stretch[0])
            self.assertEqual(match_places(pattern, one), wanted)


if __name__ == "__main__":
    unittest.main()
