"""[28], [31] and the facts R1, R4, R5: what patterns take."""

import itertools
import time
import unittest

import slowpatterns
from patterndeeds.errors import RunError
from patterndeeds.matching import (
    cuts, derivation, found, holds, is_derivation, longest, put_in, replaced, stretches, takes,
)
from patterndeeds.patterns import read_pattern, size
from helper import MANY, VALUES, Case, Row, Text, exchanged, leaf_paths, random_of
from slowpatterns import Patterns

TEXTS = ["".join(signs) for many in range(5) for signs in itertools.product("ab", repeat=many)]
# Pattern texts with begin, end, empty parts and repeats of all kinds.
FORMS = ["", "a", ".", "^", "$", "^$", "[ab]", "[^a]", "ab", "a|b", "a|ab", "b|ab|abc", "a*", "a+", "a?", "a{0}",
        "a{2}", "a{1,2}", "a{2,}",
         "(a*)*", "(a|)*", "(a?){3}", "(^a|b)*", "(a$|b)+", "(^|a)b", "a($|b)", "^*a", "a$*", "(^a)*b", "(b$)*",
         "(a|b)*b", "(ab|a)(b|)",
         "(|a){2}", "(^){2}a", "a^b", "a$b", "(a|^)(b|$)", "((a|b){2})*", "a.b", ".*a.", "(a|aa)(a|aab)", "(^a*){2}",
         "(^|b)*", "()", "()*a",
         "(ab){0,}", "(a*b*){2}", "($)|a", "(a|$){2}", ".{2,3}$", "^.{2}", "(a?b?){2,}", "(b*a){1,2}$",
         "(a|ab)*", "(a|ab){1,}b", "(ab|a|bb)*b", "(a|ab|bab){2,}", "(aa|a)*", "(b|bb|a)*a"]


def empty_copies(pattern, text, start, value):
    """The end of what a derivation takes, and whether an empty copy stands beyond the least ones."""
    tag = pattern[0]
    if tag in ("sign", "any", "class"):
        return start + 1, False
    if tag in ("begin", "end"):
        return start, False
    if tag == "or":
        return empty_copies(pattern[1][value[1]], text, start, value[2])
    parts = pattern[1] if tag == "row" else [pattern[1]] * len(value[1])
    bad = False
    for at, (part, one) in enumerate(zip(parts, value[1])):
        end, worse = empty_copies(part, text, start, one)
        bad = bad or worse or tag == "repeat" and at >= pattern[2] and end == start
        start = end
    return start, bad


class TestExamples(Case):

    def test_examples(self):
        p, q = read_pattern("b|ab|abc"), read_pattern("x*")
        self.assertEqual([found(p, "xabcab"), found(p, "xabcab", 2), stretches(p, "xabcab"), stretches(q, "axc"),
                          replaced(q, "-", "axc", True)],
                         [(1, 4), (2, 3), [(1, 4), (4, 6)], [(0, 0), (1, 2), (3, 3)], ("-a-c-", 3)])
        self.assertEqual([replaced(read_pattern("[a-c]+"), "<&\\&>", "xabz", False), derivation(p, "xabcab", 1, 3)],
                         [("x<ab&>z", 1), ("or", 1, ("row", (("one",), ("one",))))])


class TestMatching(Case):

    def check(self, pattern, text):
        """Everything about a pattern and a text, against the slow way."""
        many = len(text)
        for start in range(many + 1):
            ends = slowpatterns.ends(pattern, text, start)
            self.assertEqual(longest(pattern, text, start), max(ends, default=None), (pattern, text, start))
            self.assertEqual(found(pattern, text, start), slowpatterns.found(pattern, text, start),
                    (pattern, text, start))
            for end in range(start, many + 1):
                self.assertIs(takes(pattern, text, start, end), end in ends, (pattern, text, start, end))
                self.check_derivation(pattern, text, start, end, end in ends)
        self.assertEqual(found(pattern, text), found(pattern, text, 0))
        self.assertIs(holds(pattern, text), slowpatterns.holds(pattern, text), (pattern, text))
        self.assertEqual(stretches(pattern, text), slowpatterns.stretches(pattern, text), (pattern, text))
        self.assertEqual(cuts(pattern, text), slowpatterns.cuts(pattern, text), (pattern, text))

    def check_derivation(self, pattern, text, start, end, taken):
        value = derivation(pattern, text, start, end)
        self.assertEqual(value is not None, taken)
        if taken:
            self.assertIs(is_derivation(pattern, text, start, end, value), True, (pattern, text, start, end, value))
            self.assertEqual(empty_copies(pattern, text, start, value), (end, False), (pattern, text, value))
            for other in range(start, len(text) + 1):
                self.assertIs(is_derivation(pattern, text, start, other, value), other == end)

    def test_small_patterns(self):
        for form in FORMS:
            pattern = read_pattern(form)
            for text in TEXTS + ["aabba", "babab", "a\nb"]:
                self.check(pattern, text)

    def test_random_patterns(self):
        random = random_of("matching")
        maker = Patterns(random)
        for _ in range(400 * MANY):
            pattern = maker.pattern(random.randrange(1, 8))
            for _ in range(4):
                self.check(pattern, "".join(random.choice("abc") for _ in range(random.randrange(7))))

    def test_all_signs(self):
        text = "".join(slowpatterns.SIGNS)
        for form in [".", "[b-e]", "[^b-e]", "\\n", "\\t", "[\\t-~]", "\\.", "[!-/]+", ".*"]:
            pattern = read_pattern(form)
            self.assertEqual(cuts(pattern, text), slowpatterns.cuts(pattern, text))

    def test_r1(self):
        maker = Patterns(random_of("R1"))
        for _ in range(200 * MANY):
            pattern = maker.pattern(6)
            text = "".join(maker.random.choice("ab") for _ in range(3))
            inside = takes(pattern, "x" + text + "x", 1, 4)
            self.assertIs(takes(pattern, "ab" + text + "ba", 2, 5), inside)
            if inside:
                self.assertIs(takes(pattern, text + "x", 0, 3), True)
                self.assertIs(takes(pattern, "x" + text, 1, 4), True)
            if takes(pattern, text + "x", 0, 3) or takes(pattern, "x" + text, 1, 4):
                self.assertIs(takes(pattern, text, 0, 3), True)

    def test_r4(self):
        maker = Patterns(random_of("R4"))
        for _ in range(150 * MANY):
            part = maker.pattern(3)
            least = maker.random.randrange(3)
            most = maker.random.choice([None, least, least + 1, least + 2])
            if most is None:
                parts = [part] * least + [("repeat", part, 0, None)]
            else:
                parts = [part] * least + [("repeat", part, 0, 1)] * (most - least)
            for text in TEXTS[:15]:
                for start in range(len(text) + 1):
                    for end in range(start, len(text) + 1):
                        wanted = end in slowpatterns.row_ends(parts, text, start)
                        self.assertIs(takes(("repeat", part, least, most), text, start, end), wanted)

    def test_r5(self):
        maker = Patterns(random_of("R5"))
        for _ in range(200 * MANY):
            pattern = maker.pattern(6)
            text = "".join(maker.random.choice("ab") for _ in range(6))
            rows = stretches(pattern, text)
            for start in range(7):
                if longest(pattern, text, start) is not None:
                    self.assertTrue(any(first <= start <= end for first, end in rows), (pattern, text, start))
            self.assertEqual(replaced(pattern, "&", text, True), (text, len(rows)))
            self.assertEqual(replaced(pattern, "&", text, False)[0], text)


class TestDerivations(Case):

    def test_any_value(self):
        pattern = read_pattern("(a|b*)+c?")
        value = derivation(pattern, "aabc", 0, 4)
        for other in VALUES + [value + (), ("one",), (value,), [value]]:
            self.assertIs(is_derivation(pattern, "aabc", 0, 4, other), other == value and type(other) is tuple, other)
        for form, other in [("a", ("one",)), ("", ("row", ())), ("a*", ("repeat", (("one",),))),
                ("a|b", ("or", 0, ("one",)))]:
            text = "" if form == "" else "a"
            self.assertIs(is_derivation(read_pattern(form), text, 0, len(text), other), True)
            for bad in [Row(other), list(other), other + (None,), other[:-1], ("One",), (Text(other[0]),) + other[1:]]:
                self.assertIs(is_derivation(read_pattern(form), text, 0, len(text), bad), False, bad)

    def test_empty_copies_are_derivations(self):
        pattern = read_pattern("(a?)*")
        empty, one = ("repeat", ()), ("repeat", (("one",),))
        self.assertIs(is_derivation(pattern, "a", 0, 1, ("repeat", (empty, one, empty))), True)
        self.assertIs(is_derivation(pattern, "a", 0, 1, ("repeat", (empty, empty))), False)
        self.assertEqual(derivation(pattern, "a", 0, 1), ("repeat", (one,)))
        self.assertEqual(derivation(read_pattern("(a?){2}"), "a", 1, 1), ("repeat", (empty, empty)))
        self.assertIs(is_derivation(read_pattern("a{2,3}"), "aaaa", 0, 4, ("repeat", (("one",),) * 4)), False)
        self.assertIs(is_derivation(read_pattern("a{2,3}"), "a", 0, 1, ("repeat", (("one",),))), False)
        self.assertIs(is_derivation(read_pattern("a|b"), "a", 0, 1, ("or", 1, ("one",))), False)
        self.assertIs(is_derivation(read_pattern("a|b"), "a", 0, 1, ("or", 2, ("one",))), False)
        self.assertIs(is_derivation(read_pattern("a|b"), "a", 0, 1, ("or", -2, ("one",))), False)
        self.assertIs(is_derivation(read_pattern("a|b"), "a", 0, 1, ("or", False, ("one",))), False)
        self.assertIs(is_derivation(read_pattern("^|a"), "ba", 1, 1, ("or", 0, ("one",))), False)
        self.assertIs(is_derivation(read_pattern("$|a"), "ba", 1, 1, ("or", 0, ("one",))), False)
        self.assertIs(is_derivation(read_pattern("a"), "a", 1, 1, ("one",)), False)
        for form, text, start, holds in [("^", "a", 0, True), ("^", "a", 1, False), ("$", "a", 0, False),
                ("$", "a", 1, True),
                                         ("^", "", 0, True), ("$", "", 0, True), ("^", "ab", 1, False),
                                         ("$", "ab", 1, False)]:
            self.assertIs(is_derivation(read_pattern(form), text, start, start, ("one",)), holds)

    def test_one_part_exchanged(self):
        maker = Patterns(random_of("exchanged derivations"))
        for _ in range(60 * MANY):
            pattern = maker.pattern(5)
            text = "".join(maker.random.choice("ab") for _ in range(3))
            for end in slowpatterns.ends(pattern, text, 0):
                value = derivation(pattern, text, 0, end)
                for path in leaf_paths(value):
                    for worth in [None, 0, 1, True, "one", (), ("one",), ("row", ()), ("repeat", ()), [("one",)],
                            ("or", 0, ("one",))]:
                        other = exchanged(value, path, worth)
                        wanted = end in self.ends_of(pattern, text, 0, other)
                        self.assertIs(is_derivation(pattern, text, 0, end, other), wanted, (pattern, text, other))

    def ends_of(self, pattern, text, start, value):
        """The ends of what a value derives, none if it is no derivation."""
        if type(value) is not tuple or not value:
            return []
        tag = pattern[0]
        if tag in ("sign", "any", "class", "begin", "end"):
            return list(slowpatterns.ends(pattern, text, start)) if value == ("one",) else []
        if value[0] != tag:
            return []
        if tag == "or":
            if len(value) != 3 or type(value[1]) is not int or value[1] not in range(len(pattern[1])):
                return []
            return self.ends_of(pattern[1][value[1]], text, start, value[2])
        if len(value) != 2 or type(value[1]) is not tuple:
            return []
        parts = pattern[1]
        if tag == "repeat":
            parts = (pattern[1],) * len(value[1])
            if len(parts) < pattern[2] or pattern[3] is not None and len(parts) > pattern[3]:
                return []
        if len(parts) != len(value[1]):
            return []
        rows = [start]
        for part, one in zip(parts, value[1]):
            rows = [end for at in rows for end in self.ends_of(part, text, at, one)]
        return rows


class TestReplaced(Case):

    def test_put_in(self):
        for new, made in [("", ""), ("x", "x"), ("&", "<>"), ("&&", "<><>"), ("a&b", "a<>b"), ("\\&", "&"),
                ("\\\\", "\\"),
                ("\\\\&", "\\<>"), ("\\\\\\&", "\\&"), ("\\\\\\\\", "\\\\"), ("\\", "\\"), ("\\a", "\\a"),
                ("\\n&", "\\n<>"), ("&\\", "<>\\"),
                ("\\\\\\", "\\\\"), ("\\a\\&", "\\a&"), ("&\\&&", "<>&<>")]:
            self.assertEqual(put_in(new, "<>"), made, new)
        random = random_of("put in")
        for _ in range(500 * MANY):
            new = "".join(random.choice("a&\\") for _ in range(random.randrange(8)))
            self.assertEqual(put_in(new, "&\\x"), slowpatterns.put_in(new, "&\\x"), new)
        self.assertEqual(len(put_in("&" * 4000, "abcde")), 20000)

    def test_against_the_slow_way(self):
        random = random_of("replaced")
        maker = Patterns(random)
        for _ in range(500 * MANY):
            pattern = maker.pattern(random.randrange(1, 6))
            text = "".join(random.choice("ab") for _ in range(random.randrange(7)))
            for new in ["", "-", "&", "<&\\&>", "\\\\&\\"]:
                for every in [True, False]:
                    self.assertEqual(replaced(pattern, new, text, every),
                            slowpatterns.replaced(pattern, new, text, every))

    def test_no_stretch(self):
        self.assertEqual(replaced(read_pattern("x"), "y", "abc", True), ("abc", 0))
        self.assertEqual(replaced(read_pattern("x"), "y", "abc", False), ("abc", 0))
        self.assertEqual(replaced(read_pattern("^"), "y", "", True), ("y", 1))

    def test_too_long(self):
        pattern = read_pattern("a")
        self.assertEqual(replaced(pattern, "b" * 40, "a" * 100, True), ("b" * 4000, 100))
        self.raises_with(RunError, "word", "long", replaced, pattern, "b" * 41, "a" * 100, True)
        self.assertEqual(replaced(pattern, "b" * 3901, "a" * 100, False), ("b" * 3901 + "a" * 99, 1))
        self.raises_with(RunError, "word", "long", replaced, pattern, "b" * 3902, "a" * 100, False)
        self.assertEqual(replaced(read_pattern("$"), "&", "a" * 4000, True), ("a" * 4000, 1))
        self.raises_with(RunError, "word", "long", replaced, read_pattern("$"), "b", "a" * 4000, True)


class TestLimits(Case):

    def test_at_the_limits(self):
        """The size of the pattern times the square of the length is at most 400,000."""
        begun = time.process_time()
        for form, many in [("a", 632), ("a*", 632), ("(a*)*", 632), ("((a*)*)*", 632), ("(a|a)*", 447),
                ("(a|aa)*b", 310),
                ("a{0,30}", 115), ("(a{0,30}){0,10}", 36), ("((a|b)?){30}", 81), ("(a?){30}a{30}", 81),
                ("(.*a){10}", 141),
                ("(a*){30}", 115), ("a*" * 10, 200), ("(a|b)*a(a|b){8}", 145), ("^(a*)*$", 365)]:
            pattern = read_pattern(form)
            text = "a" * many
            self.assertLessEqual(size(pattern) * many ** 2, 410000)
            self.assertIs(holds(pattern, text), form != "(a|aa)*b")
            end = longest(pattern, text, 0)
            if end is not None:
                self.assertIs(takes(pattern, text, 0, end), True)
                value = derivation(pattern, text, 0, end)
                self.assertIs(is_derivation(pattern, text, 0, end, value), True)
                self.assertEqual(empty_copies(pattern, text, 0, value), (end, False))
            stretches(pattern, text)
            cuts(pattern, text)
            found(pattern, text, many // 2)
        self.assertLess(time.process_time() - begun, 20)

    def test_long_texts(self):
        """In runs texts of 4,000 signs come to any pattern."""
        begun = time.process_time()
        for form in ["a*b", ".*b", "(a|b)*ba", "a*ab|b", "[^b]*b", "(aa)*b$"]:
            pattern = read_pattern(form)
            self.assertIs(holds(pattern, "a" * 4000), False)
            self.assertIsNone(found(pattern, "a" * 4000))
            self.assertEqual(cuts(pattern, "a" * 4000), [])
        self.assertEqual(stretches(read_pattern("a*b|"), "a" * 3999), [(at, at) for at in range(4000)])
        self.assertEqual(found(read_pattern("a*b"), "c" * 3000 + "a" * 999 + "b"), (3000, 4000))
        self.assertLess(time.process_time() - begun, 20)


if __name__ == "__main__":
    unittest.main()
