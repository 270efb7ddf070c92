"""[22], [23], [24] and the facts V1, V2, V3: values."""

import unittest
from fractions import Fraction

import slowvalues
from patterndeeds import values
from patterndeeds.errors import RunError
from patterndeeds.values import (
    as_number, compared, has_number_form, is_like_number, is_true, is_value, minus, number_of, operated, put_together,
    round_of, text_of, whole,
)
from helper import MANY, VALUES, Case, Number, Row, Text, random_of

GREAT = 10 ** 60
UNSET = ("unset",)
# Values of all kinds, for pairs.
SOME = [("number", 0, 1), ("number", 2, 1), ("number", -7, 2), ("number", 1, 3), ("number", 10, 1), UNSET,
        ("text", ""), ("text", "0"), ("text", "2"), ("text", "10"), ("text", "abc"), ("text", " 2 "),
        ("seen", ""), ("seen", "0"), ("seen", "2"), ("seen", "10"), ("seen", "9"), ("seen", " 2 "), ("seen", "+2.0"),
        ("seen", "1a"), ("seen", "abc"), ("seen", "-3.5"), ("seen", " ")]
FORMS = ["0", "7", "10", "007", "3.", ".5", "3.50", "-1", "+1", " 1", "1 ", "\t1\n", " -3.50\n", "1" * 70,
        "." + "3" * 80,
         "-" + "9" * 75 + "." + "1" * 75, "  +.0  ", "00.00"]
NO_FORMS = ["", " ", ".", "-", "+", "-.", "+.", "--1", "+-1", "-+1", "++1", "- 1", "+ 1", "1 2", "1 .5", "1.2.3",
        "1..2",
            "1e3", "1a", "a1", "0x1", "1,5", "1-", "1+", "abc", ". 5", "5 .", "-\n1", "$1"]


def text_value(one):
    return ("text", one)


def random_text(random):
    pick = random.choice
    if random.random() < 0.2:
        return "".join(pick("ab01.-+ \n") for _ in range(random.randrange(5)))
    digits = "".join(pick("0123459") for _ in range(pick([0, 1, 1, 2, 3, 20, 65])))
    if random.random() < 0.4:
        at = random.randrange(len(digits) + 1)
        digits = digits[:at] + "." + digits[at:]
    return pick(["", "", " ", "\t\n"]) + pick(["", "", "-", "+"]) + digits + pick(["", "", " ", "a", " 1", ".", "\n"])


def random_value(random):
    tag = random.choice(["number", "number", "text", "seen", "seen", "unset"])
    if tag == "unset":
        return (tag,)
    if tag != "number":
        return (tag, random_text(random))
    most = random.choice([3, 20, 1000, 10 ** 30, GREAT])
    made = Fraction(random.randrange(-most, most + 1), random.choice([1, 1, 2, 3, 8, 10 ** 6, most]))
    return (tag, made.numerator, made.denominator)


class TestExamples(Case):

    def test_examples(self):
        self.assertEqual([has_number_form(" -3.50\n"), has_number_form("3."), has_number_form("."),
                          has_number_form("1e3")], [True, True, False, False])
        self.assertEqual([number_of(("text", "3.50 apples")), number_of(("seen", " -.5x"))], [(7, 2), (-1, 2)])
        self.assertEqual([text_of(("number", 1, 3)), text_of(("number", -1, 2000000)), text_of(("number", -1, 4000000)),
                          text_of(("number", -7, 2))], ["0.333333", "-0.000001", "0", "-3.5"])
        self.assertEqual([compared(("seen", "10"), ("seen", "9")), compared(("seen", "10"), ("text", "9")),
                          compared(UNSET, ("number", 0, 1)), compared(UNSET, ("text", ""))], [1, -1, 0, 0])
        self.assertEqual([round_of([("seen", "10"), ("seen", "9"), ("text", "1a")]),
                          operated("@", ("number", -7, 2), ("number", 2, 1)),
                          operated("^", ("text", "2x"), ("number", -3, 1))],
                         [(0, 2, 1), ("number", -3, 2), ("number", 1, 8)])


class TestIsValue(Case):

    def test_values(self):
        for one in SOME + [("number", GREAT, 1), ("number", -GREAT, 1), ("number", 1, GREAT), ("number", -1, GREAT),
                           ("number", GREAT - 1, GREAT), ("text", "a" * 4000), ("seen", "\t\n ~" * 1000)]:
            self.assertIs(is_value(one), True, one)

    def test_others(self):
        for one in VALUES + [("number", 2, 2), ("number", 0, 2), ("number", 4, 6), ("number", 1, 0), ("number", 1, -1),
                ("number", GREAT + 1, 1), ("number", -GREAT - 1, 1), ("number", 1, GREAT + 1), ("number", 10 ** 89, 1),
                ("number", GREAT + 1, 2), ("number", -GREAT - 1, 2), ("number", 1, -2), ("number", 3, GREAT + 1),
                ("number", True, 1), ("number", 1, True), ("number", Number(1), 1), ("number", 1), ("number", 1, 1, 1),
                ("number", "1", 1), ("number", None, 1), ("number", 1.0, 1), ("number",), ("text",), ("text", "a", "b"),
                ("text", 1), ("text", None), ("text", "a" * 4001), ("seen", "a" * 4001), ("text", "%"), ("seen", "\r"),
                ("text", "\x00"), ("text", "\u00e9"), ("text", Text("a")), ("unset", None), ("unset", "unset"),
                ["unset"], Row(("unset",)), ("Number", 1, 1), ("other",), (None,), (("unset",),), "unset", 1,
                ("seen", ("text", "a")), ("walk", "a", ())]:
            self.assertIs(is_value(one), False, one)


class TestForms(Case):

    def test_forms(self):
        for text in FORMS:
            self.assertIs(has_number_form(text), True, text)
        for text in NO_FORMS:
            self.assertIs(has_number_form(text), False, text)
        for sign in " \t\n":
            self.assertIs(has_number_form(sign + sign + "12" + sign), True)
            self.assertIs(has_number_form("1" + sign + "2"), False)

    def test_long_texts(self):
        for text, holds in [("1" * 4000, True), ("1" * 3999 + "a", False), (" " * 3999 + "1", True),
                            (" " * 4000, False), ("." * 4000, False)]:
            self.assertIs(has_number_form(text), holds)

    def test_numbers(self):
        for text, number in [("", (0, 1)), (" ", (0, 1)), (".", (0, 1)), ("-", (0, 1)), ("- 5", (0, 1)),
                ("--5", (0, 1)),
                ("a1", (0, 1)), ("5", (5, 1)), ("5a", (5, 1)), ("5 6", (5, 1)), (" \t\n5", (5, 1)), ("+5", (5, 1)),
                ("-5-", (-5, 1)), ("5.", (5, 1)), ("5..", (5, 1)), (".5", (1, 2)), ("-.5.5", (-1, 2)),
                ("1.2.3", (6, 5)),
                ("1e3", (1, 1)), ("0x10", (0, 1)), ("007.500", (15, 2)), ("-0", (0, 1)), ("-0.0", (0, 1)),
                ("1" + "0" * 70, (10 ** 70, 1)), ("." + "0" * 69 + "1", (1, 10 ** 70)), ("+.", (0, 1)),
                ("3" * 4000, (int("3" * 4000), 1)), ("\n+1.25x", (5, 4)), ("2.50", (5, 2)), (". 5", (0, 1))]:
            for tag in ["text", "seen"]:
                self.assertEqual(number_of((tag, text)), number, text)
        self.assertEqual(number_of(("number", -7, 2)), (-7, 2))
        self.assertEqual(number_of(UNSET), (0, 1))

    def test_texts(self):
        half = 2 * 10 ** 6
        for top, bottom, text in [(0, 1, "0"), (5, 1, "5"), (-5, 1, "-5"), (10 ** 60, 1, "1" + "0" * 60),
                (-10 ** 60, 1, "-1" + "0" * 60), (1, 2, "0.5"), (-1, 2, "-0.5"), (5, 4, "1.25"), (2, 3, "0.666667"),
                (-2, 3, "-0.666667"), (1, half, "0.000001"), (-1, half, "-0.000001"), (1, half + 1, "0"),
                (-1, half + 1, "0"), (10 ** 12 - 1, half * 10 ** 12, "0"), (10 ** 12 + 1, half * 10 ** 12, "0.000001"),
                (3, half, "0.000002"), (-3, half, "-0.000002"), (2 * half - 1, half, "2"), (1 - 2 * half, half, "-2"),
                (19999999, 10 ** 7, "2"), (19999995, 10 ** 7, "2"), (19999994, 10 ** 7, "1.999999"),
                (-19999995, 10 ** 7, "-2"), (1, GREAT, "0"), (-1, GREAT, "0"), (GREAT, 3, "3" * 60 + ".333333"),
                (1234567, 1000, "1234.567"), (1001, 10 ** 6, "0.001001"), (1, 10 ** 6, "0.000001"), (1, 8, "0.125")]:
            made = Fraction(top, bottom)
            self.assertEqual(text_of(("number", made.numerator, made.denominator)), text)
        self.assertEqual([text_of(("text", " 1 ")), text_of(("seen", "01")), text_of(UNSET)], [" 1 ", "01", ""])

    def test_against_the_slow_way(self):
        random = random_of("values")
        for _ in range(3000 * MANY):
            one = random_value(random)
            self.assertTrue(is_value(one))
            self.assertEqual(text_of(one), slowvalues.text(one), one)
            self.assertEqual(Fraction(*number_of(one)), slowvalues.number(one), one)
            made = slowvalues.number(one)
            self.assertEqual(number_of(one), (made.numerator, made.denominator))
            self.assertIs(is_like_number(one), slowvalues.like_number(one), one)
            self.assertIs(is_true(one), slowvalues.true(one), one)
            if one[0] != "number" and len(one) > 1:
                self.assertIs(has_number_form(one[1]), slowvalues.FORM.fullmatch(one[1]) is not None)

    def test_v1(self):
        random = random_of("V1")
        for _ in range(500 * MANY):
            one = random_value(random)
            if one[0] == "number":
                text = text_of(one)
                self.assertTrue(has_number_form(text))
                away = abs(Fraction(*number_of(("text", text))) - Fraction(one[1], one[2]))
                self.assertLessEqual(away, Fraction(1, 2 * 10 ** 6))
                self.assertEqual(Fraction(*number_of(("text", text))) * 10 ** 6 % 1, 0)


class TestTruth(Case):

    def test_like_number(self):
        for one, holds in [(("number", 0, 1), True), (UNSET, True), (("text", "1"), False), (("text", ""), False),
                (("seen", "1"), True), (("seen", " -1.5\n"), True), (("seen", ""), False), (("seen", "1a"), False)]:
            self.assertIs(is_like_number(one), holds, one)

    def test_true(self):
        for one, holds in [(("number", 0, 1), False), (("number", 1, GREAT), True), (("number", -1, 1), True),
                (UNSET, False), (("text", ""), False), (("text", "0"), True), (("text", " "), True),
                (("seen", ""), False), (("seen", "0"), False), (("seen", " -0.00 "), False), (("seen", "0.1"), True),
                (("seen", " "), True), (("seen", "0a"), True), (("seen", "abc"), True), (("seen", "-1"), True)]:
            self.assertIs(is_true(one), holds, one)


class TestCompared(Case):

    def test_all_pairs(self):
        for one in SOME:
            for other in SOME:
                found = compared(one, other)
                self.assertEqual(found, slowvalues.compared(one, other), (one, other))
                self.assertEqual(found, -compared(other, one))
                self.assertIs(type(found), int)

    def test_by_hand(self):
        for one, other, order in [(("number", 2, 1), ("number", 10, 1), -1), (("number", 1, 3), ("number", 1, 2), -1),
                (("text", "2"), ("text", "10"), 1), (("seen", "2"), ("seen", "10"), -1),
                (("seen", "2"), ("text", "10"), 1),
                (("number", 2, 1), ("text", "10"), 1), (("number", 2, 1), ("seen", "10"), -1),
                (("number", 2, 1), ("seen", "10a"), 1), (("seen", "2"), ("seen", "2.0"), 0), (UNSET, UNSET, 0),
                (("text", "2"), ("text", "2.0"), -1), (UNSET, ("seen", "0"), 0), (UNSET, ("seen", ""), 0),
                (UNSET, ("text", "a"), -1), (("number", 1, 3), ("text", "0.333333"), 0),
                (("seen", " "), ("seen", "0"), -1),
                (("text", "Z"), ("text", "a"), -1), (("text", "\t"), ("text", " "), -1)]:
            self.assertEqual(compared(one, other), order, (one, other))


class TestOperated(Case):

    def test_by_hand(self):
        def number(top, bottom=1):
            return ("number", top, bottom)

        for operator, one, other, result in [("+", number(1), number(1, 2), number(3, 2)),
                ("+", number(1, 2), number(1, 2), number(1)), ("-", number(1), number(3), number(-2)),
                ("*", number(2, 3), number(3, 2), number(1)), ("/", number(1), number(-3), number(-1, 3)),
                ("/", number(0), number(-3), number(0)), ("/", number(6), number(4), number(3, 2)),
                ("@", number(7), number(3), number(1)), ("@", number(-7), number(3), number(-1)),
                ("@", number(7), number(-3), number(1)), ("@", number(-7), number(-3), number(-1)),
                ("@", number(7, 2), number(1, 3), number(1, 6)), ("@", number(6), number(3), number(0)),
                ("^", number(2), number(10), number(1024)), ("^", number(-2), number(3), number(-8)),
                ("^", number(-2), number(-3), number(-1, 8)), ("^", number(-1, 2), number(-2), number(4)),
                ("^", number(0), number(0), number(1)), ("^", number(0), number(100), number(0)),
                ("^", number(-1), number(-100), number(1)), ("^", number(-1), number(-99), number(-1)),
                ("^", number(2, 3), number(-2), number(9, 4)), ("^", number(5), number(0), number(1)),
                ("+", UNSET, ("text", "2x"), number(2)), ("*", ("seen", " 3 "), ("text", "-.5"), number(-3, 2)),
                ("+", ("text", "a"), UNSET, number(0))]:
            self.assertEqual(operated(operator, one, other), result, (operator, one, other))

    def test_errors(self):
        zero, one, half = ("number", 0, 1), ("number", 1, 1), ("number", 1, 2)
        for operator, left, right, word in [("/", one, zero, "divide"), ("/", zero, zero, "divide"),
                ("@", one, zero, "divide"), ("/", one, UNSET, "divide"), ("@", one, ("text", "a"), "divide"),
                ("^", one, half, "power"), ("^", one, ("number", 101, 1), "power"),
                ("^", one, ("number", -101, 1), "power"),
                ("^", zero, ("number", -101, 1), "power"), ("^", zero, ("number", -1, 2), "power"),
                ("^", ("number", 10, 1), ("number", 101, 1), "power"), ("^", zero, ("number", -1, 1), "divide"),
                ("^", zero, ("number", -100, 1), "divide"), ("^", ("number", 10, 1), ("number", 61, 1), "great"),
                ("^", ("number", 10, 1), ("number", -61, 1), "great"),
                ("^", ("number", 1, 10), ("number", 61, 1), "great"),
                ("*", ("number", GREAT, 1), ("number", 2, 1), "great"), ("*", ("number", 1, GREAT), half, "great"),
                ("+", ("number", GREAT, 1), one, "great"), ("-", ("number", -GREAT, 1), one, "great"),
                ("/", one, ("text", "0." + "0" * 60 + "1"), "great"),
                ("+", zero, ("text", "1" + "0" * 61), "great"), ("+", half, ("number", 1, GREAT - 1), "great")]:
            self.raises_with(RunError, "word", word, operated, operator, left, right)

    def test_at_the_bounds(self):
        ten = ("number", 10, 1)
        self.assertEqual(operated("^", ten, ("number", 60, 1)), ("number", GREAT, 1))
        self.assertEqual(operated("^", ten, ("number", -60, 1)), ("number", 1, GREAT))
        self.assertEqual(operated("+", ("number", GREAT - 1, 1), ("number", 1, 1)), ("number", GREAT, 1))
        self.assertEqual(operated("-", ("number", 1 - GREAT, 1), ("number", 1, 1)), ("number", -GREAT, 1))
        self.assertEqual(operated("*", ("number", GREAT, 1), ("number", 1, GREAT)), ("number", 1, 1))
        self.assertEqual(operated("*", ("text", "1" + "0" * 80), ("text", "." + "0" * 79 + "1")), ("number", 1, 1))
        self.assertEqual(operated("-", ("text", "9" * 90), ("text", "9" * 90)), ("number", 0, 1))
        self.assertEqual(operated("@", ("text", "1" + "0" * 90), ("number", 7, 1)), ("number", 10 ** 90 % 7, 1))
        self.assertEqual(operated("^", ("text", "1" + "0" * 90), ("number", 0, 1)), ("number", 1, 1))
        self.raises_with(RunError, "word", "great", operated, "^", ("text", "9" * 3999), ("number", 100, 1))

    def test_against_the_slow_way(self):
        random = random_of("operated")
        for _ in range(4000 * MANY):
            operator = random.choice("+-*/@^")
            one, other = random_value(random), random_value(random)
            if operator == "^" and random.random() < 0.8:
                other = ("number", random.randrange(-102, 103), 1)
            self.same(lambda: operated(operator, one, other), lambda: slowvalues.operated(operator, one, other))

    def same(self, action, slow):
        """Checks that two ways give one result, or fail with one word."""
        try:
            wanted = slow()
        except slowvalues.Failed as failed:
            self.raises_with(RunError, "word", failed.word, action)
            return
        self.assertEqual(action(), wanted)

    def test_v3(self):
        random = random_of("V3")
        for _ in range(500 * MANY):
            a = Fraction(random.randrange(-99, 100), random.randrange(1, 9))
            b = Fraction(random.choice([-1, 1]) * random.randrange(1, 30), random.randrange(1, 9))
            rest = Fraction(*operated("@", slowvalues.value(a), slowvalues.value(b))[1:])
            self.assertEqual(((a - rest) / b).denominator, 1)
            self.assertTrue(rest == 0 or (rest > 0) == (a > 0))
            self.assertLess(abs(rest), abs(b))

    def test_as_number_minus_whole(self):
        for one, number, opposite, part in [(("number", 7, 2), (7, 2), (-7, 2), (3, 1)),
                (("number", -7, 2), (-7, 2), (7, 2), (-3, 1)), (UNSET, (0, 1), (0, 1), (0, 1)),
                (("text", "-0.5x"), (-1, 2), (1, 2), (0, 1)), (("seen", "12"), (12, 1), (-12, 1), (12, 1)),
                (("number", 0, 1), (0, 1), (0, 1), (0, 1)), (("number", -GREAT, 1), (-GREAT, 1), (GREAT, 1),
                (-GREAT, 1)),
                (("number", 1, GREAT), (1, GREAT), (-1, GREAT), (0, 1)), (("text", ""), (0, 1), (0, 1), (0, 1))]:
            self.assertEqual(as_number(one), ("number",) + number)
            self.assertEqual(minus(one), ("number",) + opposite)
            self.assertEqual(whole(one), ("number",) + part)

    def test_too_great(self):
        for text in ["1" + "0" * 60 + "1", "-1" + "0" * 61]:
            for action in [as_number, minus, whole]:
                for tag in ["text", "seen"]:
                    self.raises_with(RunError, "word", "great", action, (tag, text))
        for text in ["." + "1" * 61, "9." + "0" * 60 + "1"]:
            for action in [as_number, minus]:
                self.raises_with(RunError, "word", "great", action, ("text", text))
            self.assertEqual(whole(("text", text)), ("number", int(text.partition(".")[0] or "0"), 1))
        for action in [as_number, minus, whole]:
            self.assertEqual(abs(action(("text", "1" + "0" * 60))[1]), GREAT)


class TestTogether(Case):

    def test_put_together(self):
        self.assertEqual(put_together(("number", 1, 2), ("seen", " x")), ("text", "0.5 x"))
        self.assertEqual(put_together(UNSET, UNSET), ("text", ""))
        self.assertEqual(put_together(("text", "a" * 3999), ("seen", "b")), ("text", "a" * 3999 + "b"))
        self.raises_with(RunError, "word", "long", put_together, ("text", "a" * 4000), ("seen", "b"))
        self.assertEqual(put_together(("text", "a" * 4000), UNSET), ("text", "a" * 4000))


class TestRounds(Case):

    def slow(self, some):
        many = range(len(some))
        for i in many:
            for j in many:
                for k in many:
                    if compared(some[i], some[j]) <= 0 and compared(some[j], some[k]) <= 0 \
                            and compared(some[i], some[k]) > 0:
                        return (i, j, k)
        return None

    def test_against_the_slow_way(self):
        random = random_of("rounds")
        found = 0
        for _ in range(400 * MANY):
            some = [random.choice(SOME) for _ in range(random.randrange(7))]
            wanted = self.slow(some)
            self.assertEqual(round_of(some), wanted, some)
            if wanted is not None:
                found += 1
                # V2
                self.assertEqual([is_like_number(some[at]) for at in wanted].count(False), 1)
        self.assertGreater(found, 20)

    def test_v2(self):
        random = random_of("V2")
        for holds in [True, False]:
            alike = [one for one in SOME if is_like_number(one) == holds]
            for _ in range(50):
                self.assertIsNone(round_of([random.choice(alike) for _ in range(8)]))

    def test_edges(self):
        self.assertIsNone(round_of([]))
        self.assertIsNone(round_of([("text", "a")]))
        self.assertIsNone(round_of([("seen", "10")] * 300))
        some = [("number", at, 1) for at in range(2, 25)] + [("text", "1a")]
        self.assertEqual(round_of(some), self.slow(some))
        many = [("number", at, 1) for at in range(2, 300)] + [("text", "1a")]
        self.assertEqual(round_of(many), (0, 8, 298))
        some = [("seen", "10"), ("seen", "9"), ("text", "1a")]
        kept = list(some)
        round_of(some)
        self.assertEqual(some, kept)


class TestKinds(Case):

    def test_truths_are_truths(self):
        for one in SOME:
            for action in [is_like_number, is_true]:
                self.assertIs(type(action(one)), bool)
        for value in VALUES:
            self.assertIs(type(is_value(value)), bool)
        self.assertIs(values.is_value.__module__, values.__name__)


if __name__ == "__main__":
    unittest.main()
