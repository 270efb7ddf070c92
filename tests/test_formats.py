"""[25], [26] and the facts V4, V5: formats."""

import unittest
from fractions import Fraction

import slowvalues
from patterndeeds.errors import InvalidFormat, RunError
from patterndeeds.formats import directive_text, formatted, is_format, read_format, written_format
from patterndeeds.values import number_of
from helper import MANY, VALUES, Case, Number, Row, Rows, Text, random_of
from test_values import random_value

HALF = ("number", -7, 2)
SEVEN = ("number", 7, 1)
WORD = ("text", "abcdef")


def directive(left=False, zeros=False, width=0, precision=None, letter="d"):
    return ("directive", left, zeros, width, precision, letter)


NO_FORMATS = ["@", "a@", "@-", "@0", "@5", "@.", "@.5", "@q", "@-q", "@ d", "@d@", "@--d", "@00d", "@-00d", "@0-d",
        "@5-d",
              "@201d", "@0201d", "@1000d", "@.d", "@.-1d", "@.00d", "@.05d", "@.61f", "@.100f", "@5.d", "@5.q", "@5 d",
              "@+d", "@D", "@i", "@@@", "@5@", "@" + "9" * 50 + "d", "@." + "1" * 50 + "f", "@5.3", "@.5.5f", "@5d@.",
              "@\n"]


class TestRead(Case):

    def test_examples(self):
        self.assertEqual(read_format("a@@b@-08.3f!"),
                         [("plain", "a@b"), ("directive", True, True, 8, 3, "f"), ("plain", "!")])
        self.assertEqual(formatted("@5d|@-5d|@05d|@.4d|@3x", [HALF, HALF, HALF, HALF, ("number", 255, 1)]),
                         "   -3|-3   |-0003|-0003| ff")
        self.assertEqual(formatted("@.2f @.0f @.3s@c@@", [("number", 2, 3), HALF, WORD, ("text", "xyz")]),
                         "0.67 -4 abcx@")

    def test_directives(self):
        for letter in "dxfsc":
            for dash in ["", "-"]:
                for zero in ["", "0"]:
                    for width in ["", "1", "9", "10", "100", "199", "200"]:
                        for precision in ["", ".0", ".1", ".6", ".10", ".59", ".60"]:
                            text = "@" + dash + zero + width + precision + letter
                            made = directive(dash == "-", zero == "0", int(width or 0),
                                             int(precision[1:]) if precision else None, letter)
                            self.assertEqual(read_format(text), [made], text)
                            self.assertEqual(written_format([made]), text)
                            self.assertIs(is_format([made]), True)

    def test_plain(self):
        self.assertEqual(read_format(""), [])
        self.assertEqual(read_format("@@"), [("plain", "@")])
        self.assertEqual(read_format("a@@@@b"), [("plain", "a@@b")])
        self.assertEqual(read_format("@@d@@@d@d\n\t"),
                         [("plain", "@d@"), directive(), directive(), ("plain", "\n\t")])
        self.assertEqual(read_format("@0d@1d"), [directive(zeros=True), directive(width=1)])

    def test_no_formats(self):
        for text in NO_FORMATS:
            self.raises(InvalidFormat, read_format, text)
            self.raises_with(RunError, "word", "format", formatted, text, [SEVEN] * 9)

    def test_there_and_back(self):
        random = random_of("formats")
        for _ in range(500 * MANY):
            parts = [random.choice(["@@", "a", " ", "@d", "@-5s", "@05.2f", "@.3x", "@c", "\n"])
                     for _ in range(random.randrange(8))]
            text = "".join(parts)
            pieces = read_format(text)
            self.assertEqual(written_format(pieces), text)
            self.assertIs(is_format(pieces), True)
            kept = list(pieces)
            written_format(pieces)
            self.assertEqual(pieces, kept)
            cut = "".join(parts[:random.randrange(len(parts) + 1)]) + random.choice(["@1", "@0", "@.", "@0."])
            self.raises(InvalidFormat, read_format, cut + random.choice(["", "?", "-", "@"]))

    def test_is_format(self):
        for value in [[], [("plain", "a")], [("plain", "@"), directive(), ("plain", "x")], [directive()] * 3,
                      [directive(width=200, precision=60)], [("plain", "a" * 5000)]]:
            self.assertIs(is_format(value), True, value)
        for value in [one for one in VALUES if one != []] + [(), (("plain", "a"),), Rows(), [Row(("plain", "a"))],
                [("plain", "")], [("plain",)],
                [("plain", "a", "b")], [("plain", "a"), ("plain", "b")], [directive(), ("plain", "a"), ("plain", "b")],
                [("plain", 1)], [("plain", "%")], [("plain", Text("a"))], [["plain", "a"]], [("Plain", "a")],
                [directive()[:5]],
                [directive() + (1,)], [directive(left=1)], [directive(left=None)], [directive(zeros=0)],
                [directive(width=-1)], [directive(width=201)], [directive(width=None)], [directive(width=True)],
                [directive(width=Number(5))], [directive(width="5")], [directive(precision=-1)],
                [directive(precision=61)],
                [directive(precision=False)], [directive(precision="1")], [directive(letter="q")],
                [directive(letter="dd")],
                [directive(letter="")], [directive(letter=None)], [directive(letter=["d"])],
                [directive(letter=Text("d"))],
                [("directive",)], ["plain"], [None], [()], [("other", False, False, 0, None, "d")]]:
            self.assertIs(is_format(value), False, value)


class TestTexts(Case):

    def test_integers(self):
        for letter, one, precision, text in [("d", SEVEN, None, "7"), ("d", HALF, None, "-3"),
                ("d", ("text", "-.9"), None, "0"),
                ("d", ("number", -1, 2), None, "0"), ("d", ("number", 0, 1), 0, "0"), ("d", ("number", 0, 1), 3, "000"),
                ("d", HALF, 0, "-3"), ("d", HALF, 1, "-3"), ("d", HALF, 4, "-0003"), ("d", ("unset",), None, "0"),
                ("d", ("text", "12abc"), None, "12"), ("d", ("text", "9" * 100), None, "9" * 100),
                ("d", SEVEN, 60, "7".zfill(60)),
                ("x", ("number", 255, 1), None, "ff"), ("x", ("number", -255, 1), 4, "-00ff"),
                ("x", ("number", 0, 1), None, "0"),
                ("x", ("number", 10, 1), None, "a"), ("x", ("number", 31, 2), None, "f"),
                ("x", ("number", -1, 3), 2, "00"),
                ("x", ("number", 10 ** 60, 1), None, hex(10 ** 60)[2:])]:
            self.assertEqual(directive_text(directive(precision=precision, letter=letter), one), text)

    def test_fractions(self):
        for one, precision, text in [(SEVEN, None, "7.000000"), (SEVEN, 0, "7"), (SEVEN, 1, "7.0"), (HALF, 0, "-4"),
                (HALF, 1, "-3.5"), (("number", 1, 2), 0, "1"), (("number", -1, 2), 0, "-1"),
                (("number", 49, 100), 0, "0"),
                (("number", -49, 100), 0, "0"), (("number", 1, 200), 2, "0.01"), (("number", -1, 200), 2, "-0.01"),
                (("number", -1, 201), 2, "0.00"), (("number", 2, 3), 2, "0.67"),
                (("number", 2, 3), 60, "0." + "6" * 59 + "7"),
                (("number", 999, 1000), 2, "1.00"), (("number", 1, 10 ** 60), 60, "0." + "0" * 59 + "1"),
                (("unset",), 3, "0.000"), (("text", "-0"), 2, "0.00"), (("number", -1, 10 ** 60), None, "0.000000"),
                (("text", "1" + "0" * 80), 1, "1" + "0" * 80 + ".0")]:
            self.assertEqual(directive_text(directive(precision=precision, letter="f"), one), text)

    def test_texts(self):
        for letter, one, precision, text in [("s", WORD, None, "abcdef"), ("s", WORD, 0, ""), ("s", WORD, 3, "abc"),
                ("s", WORD, 60, "abcdef"), ("s", HALF, None, "-3.5"), ("s", HALF, 2, "-3"), ("s", ("unset",), None, ""),
                ("s", ("number", 1, 3), None, "0.333333"), ("c", WORD, None, "a"), ("c", WORD, 0, "a"),
                ("c", WORD, 5, "a"),
                ("c", ("text", ""), None, ""), ("c", ("unset",), 3, ""), ("c", HALF, None, "-"),
                ("c", ("seen", "\n"), 1, "\n")]:
            self.assertEqual(directive_text(directive(precision=precision, letter=letter), one), text)

    def test_widths(self):
        for made, one, text in [(directive(width=1), HALF, "-3"), (directive(width=2), HALF, "-3"),
                (directive(width=3), HALF, " -3"), (directive(True, width=4), HALF, "-3  "),
                (directive(True, True, 4), HALF, "-3  "), (directive(False, True, 4), HALF, "-003"),
                (directive(False, True, 0), HALF, "-3"), (directive(False, True, 6, 3), HALF, "-00003"),
                (directive(False, True, 4, None, "x"), ("number", -10, 1), "-00a"),
                (directive(False, True, 7, 1, "f"), HALF, "-0003.5"),
                (directive(False, True, 8, 3, "s"), WORD, "     abc"),
                (directive(False, True, 3, None, "c"), WORD, "  a"),
                (directive(True, False, 3, None, "c"), WORD, "a  "),
                (directive(True, True, 8, 3, "f"), ("number", 1, 3), "0.333   "),
                (directive(width=200), SEVEN, " " * 199 + "7"),
                (directive(False, True, 200), HALF, "-" + "0" * 198 + "3"),
                (directive(True, width=200, letter="s"), ("unset",), " " * 200),
                (directive(False, True, 3), ("number", -1, 2), "000"),
                (directive(False, True, 5, 0, "f"), ("text", "-1.5"), "-0002")]:
            self.assertEqual(directive_text(made, one), text, made)

    def test_v5(self):
        random = random_of("V5")
        for _ in range(500 * MANY):
            one = random_value(random)
            made = directive(random.random() < 0.5, random.random() < 0.5, random.choice([1, 2, 5, 9, 30, 200]),
                             random.choice([None, 0, 1, 2, 7, 60]), random.choice("dxfsc"))
            bare = directive_text(made[:3] + (0,) + made[4:], one)
            text = directive_text(made, one)
            if len(bare) >= made[3]:
                self.assertEqual(text, bare)
            else:
                self.assertEqual(len(text), made[3])
            places = made[4] if made[4] is not None else 6
            shown = directive_text(directive(precision=made[4], letter="f"), one)
            away = Fraction(*number_of(("text", shown))) - slowvalues.number(one)
            self.assertLessEqual(abs(away), Fraction(1, 2 * 10 ** places))
            if abs(away) == Fraction(1, 2 * 10 ** places):
                self.assertEqual(away > 0, slowvalues.number(one) > 0)


class TestFormatted(Case):

    def test_against_the_slow_way(self):
        random = random_of("formatted")
        for _ in range(2000 * MANY):
            text = "".join(random.choice(["@@", "a", "@d", "@-5s", "@05.2f", "@.3x", "@c", "@010d", "@-0.0s", "@200s",
                    "@.0f",
                                          "@x", "@3c", "@.60f"]) for _ in range(random.randrange(5)))
            some = [random_value(random) for _ in range(random.randrange(5))]
            kept = list(some)
            try:
                wanted = slowvalues.formatted(text, some)
            except slowvalues.Failed as failed:
                self.raises_with(RunError, "word", failed.word, formatted, text, some)
            else:
                self.assertEqual(formatted(text, some), wanted, (text, some))
            self.assertEqual(some, kept)

    def test_too_few_and_left_over(self):
        self.assertEqual(formatted("a", [SEVEN, SEVEN]), "a")
        self.assertEqual(formatted("@d", [SEVEN, HALF]), "7")
        self.assertEqual(formatted("", []), "")
        self.raises_with(RunError, "word", "format", formatted, "@d", [])
        self.raises_with(RunError, "word", "format", formatted, "@d@d", [SEVEN])

    def test_too_long(self):
        self.assertEqual(formatted("@200s" * 20, [WORD] * 20), "abcdef".rjust(200) * 20)
        self.raises_with(RunError, "word", "long", formatted, "@200s" * 20 + "a", [WORD] * 20)
        self.raises_with(RunError, "word", "long", formatted, "@s@s", [("text", "a" * 4000), SEVEN])
        self.assertEqual(len(formatted("@@" * 2000 + "@s", [("text", "a" * 2000)])), 4000)
        self.raises_with(RunError, "word", "long", formatted, "@@" * 1999 + "@s", [("text", "a" * 2002)])

    def test_format_comes_ahead_of_long(self):
        long = ("text", "a" * 4000)
        self.raises_with(RunError, "word", "format", formatted, "@s@s@s", [long, long])
        self.raises_with(RunError, "word", "format", formatted, "@s@s@", [long, long])

    def test_v4(self):
        random = random_of("V4")
        pieces = ["@@", "a", "@d", "@-5s", "@05.2f", "@.3x", "@c", " "]
        for _ in range(300 * MANY):
            one, other = ["".join(random.choice(pieces) for _ in range(random.randrange(5))) for _ in range(2)]
            some = [random_value(random) for _ in range(8)]
            used = [piece[0] for piece in read_format(one)].count("directive")
            self.assertEqual(formatted(one + other, some), formatted(one, some) + formatted(other, some[used:]))
            both = [piece for piece in read_format(one) + read_format(other) if piece[0] == "directive"]
            self.assertEqual([piece for piece in read_format(one + other) if piece[0] == "directive"], both)


if __name__ == "__main__":
    unittest.main()
