"""[35], [36], [37] and the facts S1 to S4: separators, fields and records."""

import itertools
import time
import unittest

import slowpatterns
import slowrecords
from patterndeeds.errors import RunError
from patterndeeds.patterns import read_pattern, size
from patterndeeds.records import (
    field_number, field_separator, field_value, gaps, joined, next_record, parted, record_of, record_separator,
    record_texts, unkept, unsettled, with_count, with_field,
)
from helper import MANY, Case, random_of
from slowpatterns import Patterns

BLANKS, EACH, PARAGRAPHS = ("blanks",), ("each",), ("paragraphs",)
BEHIND = ["".join(signs) for many in range(5) for signs in itertools.product("ab\n", repeat=many)]
NOTHING = ("none",)
MORE = ("more",)


def sign(one):
    return ("sign", one)


def pattern(form):
    return ("pattern", read_pattern(form))


def small(maker, most):
    while True:
        made = maker.pattern(maker.random.randrange(1, most + 1))
        if size(made) <= most:
            return made


class TestExamples(Case):

    def test_examples(self):
        digits, a = field_separator("[0-9]+"), pattern("a+")
        self.assertEqual([parted(" a  b\t", BLANKS), gaps(" a  b\t", BLANKS), parted(",a,", sign(",")),
                parted("a1b22c", digits)],
                         [["a", "b"], [(0, 1), (2, 4), (5, 6)], ["", "a", ""], ["a", "b", "c"]])
        record = ("a b", ("a", "b"))
        self.assertEqual([with_field(record, 4, "z", "-"), with_count(record, 1, "-"), with_count(record, 2, "-")],
                         [("a-b--z", ("a", "b", "", "z")), ("a", ("a",)), ("a-b", ("a", "b"))])
        self.assertEqual([next_record("ab\nc", 0, False, sign("\n")), next_record("ab\nc", 3, True, sign("\n")),
                          next_record("ab\nc", 4, True, sign("\n"))],
                         [("record", "ab", 3), ("record", "c", 4), ("none",)])
        self.assertEqual([next_record("xaa", 0, False, a), next_record("xaab", 0, False, a), record_texts("xaaya", a),
                          record_texts("\n\na\n\n\nb\n", PARAGRAPHS)],
                         [("more",), ("record", "x", 3), ["x", "y"], ["a", "b"]])


class TestSeparators(Case):

    def test_of_fields(self):
        self.assertEqual(field_separator(" "), BLANKS)
        self.assertEqual(field_separator(""), EACH)
        for one in slowpatterns.SIGNS:
            if one != " ":
                self.assertEqual(field_separator(one), sign(one))
        for form in ["  ", "ab", "a|", "()", "\\n", "[,;]", "a*"]:
            self.assertEqual(field_separator(form), pattern(form))

    def test_of_records(self):
        self.assertEqual(record_separator(""), PARAGRAPHS)
        for one in slowpatterns.SIGNS:
            self.assertEqual(record_separator(one), sign(one))
        for form in ["\n\n", "ab", "a+", "^a"]:
            self.assertEqual(record_separator(form), pattern(form))

    def test_errors(self):
        for form in ["((", "a**", "[a", "\\a", "a" * 301, "**", "()("]:
            for action in [field_separator, record_separator]:
                self.raises_with(RunError, "word", "pattern", action, form)
            self.raises_with(RunError, "word", "pattern", record_of, "a", form, "\n")
        for one in "(*[+?{)|\\":
            self.assertEqual(field_separator(one), sign(one))
            self.assertEqual(record_separator(one), sign(one))


class TestFields(Case):

    def test_by_hand(self):
        for text, separator, fields, rows in [("", BLANKS, [], []), (" \t\n", BLANKS, [], [(0, 3)]),
                ("a", BLANKS, ["a"], []),
                ("\na\t b ", BLANKS, ["a", "b"], [(0, 1), (2, 4), (5, 6)]), ("", EACH, [], []),
                ("a b", EACH, ["a", " ", "b"], []),
                ("", sign(","), [], []), (",", sign(","), ["", ""], [(0, 1)]),
                (",,a", sign(","), ["", "", "a"], [(0, 1), (1, 2)]),
                ("a b", sign("\t"), ["a b"], []), ("", pattern("a*"), [], []),
                ("aab", pattern("a*"), ["", "b"], [(0, 2)]),
                ("bab", pattern("^b"), ["", "ab"], [(0, 1)]), ("bab", pattern("b$"), ["ba", ""], [(2, 3)]),
                ("ab", pattern("()"), ["ab"], []),
                ("xabcab", pattern("b|ab|abc"), ["x", "", ""], [(1, 4), (4, 6)])]:
            self.assertEqual(parted(text, separator), fields, (text, separator))
            self.assertEqual(gaps(text, separator), rows, (text, separator))
            self.assertEqual(parted(text, separator, False), fields)

    def test_with_paragraphs(self):
        for text, separator, fields, rows in [("a\nb", BLANKS, ["a", "b"], [(1, 2)]),
                ("a\n\nb", EACH, ["a", "b"], [(1, 2), (2, 3)]),
                ("\n", EACH, [], [(0, 1)]), ("a,b\nc", sign(","), ["a", "b", "c"], [(1, 2), (3, 4)]),
                ("a\n\nb", sign("\n"), ["a", "", "b"],
                 [(1, 2), (2, 3)]), ("\n", sign(","), ["", ""], [(0, 1)]),
                 ("aab\nb", pattern("aa"), ["", "b", "b"], [(0, 2), (3, 4)]),
                ("xab\n", pattern("a|ab"), ["x", "", ""], [(1, 3), (3, 4)]),
                ("a\n", pattern("a.|b"), ["", ""], [(0, 2)]), ("", sign(","), [], [])]:
            self.assertEqual(parted(text, separator, True), fields, (text, separator))
            self.assertEqual(gaps(text, separator, True), rows, (text, separator))

    def test_against_the_slow_way(self):
        random = random_of("fields")
        maker = Patterns(random)
        for _ in range(1500 * MANY):
            text = "".join(random.choice("aab ,\n\t") for _ in range(random.randrange(8)))
            separator = random.choice([BLANKS, EACH, sign(random.choice("a ,\n")), ("pattern", small(maker, 5)),
                    ("pattern", small(maker, 5))])
            for paragraphs in [False, True]:
                fields = parted(text, separator, paragraphs)
                rows = gaps(text, separator, paragraphs)
                self.assertEqual(fields, slowrecords.fields(text, separator, paragraphs), (text, separator, paragraphs))
                self.assertEqual(rows, slowrecords.gaps(text, separator, paragraphs), (text, separator, paragraphs))
                self.check_s2(text, separator, fields, rows)

    def check_s2(self, text, separator, fields, rows):
        """Fields and gaps, in the order of their places, are the whole text."""
        self.assertEqual(sum(map(len, fields)) + sum(end - start for start, end in rows), len(text))
        if separator[0] in ("sign", "pattern") and text != "":
            pieces = [fields[0]]
            for (start, end), field in zip(rows, fields[1:]):
                pieces += [text[start:end], field]
            self.assertEqual("".join(pieces), text)
        else:
            left = [one for at, one in enumerate(text) if not any(start <= at < end for start, end in rows)]
            self.assertEqual("".join(left), "".join(fields))

    def test_s1(self):
        random = random_of("S1")
        for _ in range(500 * MANY):
            text = "".join(random.choice("ab ,") for _ in range(random.randrange(7)))
            self.assertEqual(",".join(parted(text, sign(","))), text)
            texts = ["".join(random.choice("ab ,") for _ in range(random.choice([0, 1, 1,
                    2]))) for _ in range(random.randrange(1, 4))]
            self.assertIs(parted(",".join(texts), sign(",")) == texts,
                    not any("," in one for one in texts) and texts != [""])
            joint = random.choice([" ", "\t \n"])
            self.assertIs(parted(joint.join(texts), BLANKS) == texts,
                    all(one != "" and " " not in one for one in texts))
            self.assertIs(parted("".join(texts), EACH) == texts, all(len(one) == 1 for one in texts))

    def test_joined(self):
        self.assertEqual(joined([], "-"), "")
        self.assertEqual(joined(["a"], "-"), "a")
        self.assertEqual(joined(["a", "", "b"], "--"), "a----b")
        self.assertEqual(joined(["a" * 1999, "b" * 2000], "-"), "a" * 1999 + "-" + "b" * 2000)
        self.raises_with(RunError, "word", "long", joined, ["a" * 2000, "b" * 2000], "-")
        self.assertEqual(joined([""] * 4001, "-"), "-" * 4000)
        self.raises_with(RunError, "word", "long", joined, [""] * 4002, "-")
        self.assertEqual(joined([""] * 5000, ""), "")
        fields = ["a", "b"]
        joined(fields, "-")
        self.assertEqual(fields, ["a", "b"])


class TestKept(Case):

    def check(self, one, joint, separator, kept):
        value = unkept(one, joint, separator)
        self.assertEqual(value is None, kept, (one, joint, separator, value))
        if value is not None:
            self.assertIs(type(value), list)
            self.assertTrue(value and all(slowpatterns.whole(one, text) for text in value),
                    (one, joint, separator, value))
            self.assertFalse(slowrecords.is_kept(value, joint, separator), (one, joint, separator, value))

    def test_by_hand(self):
        for form, joint, separator, kept in [("[a-c]+", ",", sign(","), True), ("[a-c]*", ",", sign(","), False),
                (".+", ",", sign(","), False),
                ("[a-c]+", ";", sign(","), False), ("[a-c]+", ",,", sign(","), False),
                ("[a-c]+", "", sign(","), False), ("$a", "", sign(","), True),
                ("a+", " ", BLANKS, True), ("a+", " \t\n", BLANKS, True), ("a+", "", BLANKS, False),
                ("a+", " -", BLANKS, False),
                ("a*", " ", BLANKS, False), ("a+ ?", " ", BLANKS, False), ("a^", "", BLANKS, True),
                ("[a-z]", "", EACH, True),
                (".", "", EACH, True), ("a?", "", EACH, False), ("aa", "", EACH, False), ("a", " ", EACH, False),
                ("a{1,2}", "", EACH, False),
                ("[ab]+", "1", pattern("[0-9]+"), True), ("[ab]+", "12", pattern("[0-9]+"), True),
                ("[ab1]+", "1", pattern("[0-9]+"), False),
                ("[ab]+", "1", pattern("[0-9]"), True), ("[ab]+", "12", pattern("[0-9]"), False),
                ("[ab]+", "", pattern("[0-9]*"), False),
                ("[ab]*", "1", pattern("1+"), False), ("a", "b", pattern("ab|b"), False),
                ("a+", "ba", pattern("ba"), True),
                ("a+", "b", pattern("ba*"), False), ("a+", "b", pattern("b|ba$"), False),
                ("a+", "b", pattern("b|^a"), False), ("a+", "b", pattern("^b|b"), True),
                ("a+", "b", pattern("^b"), False), ("a+", "b", pattern("b$"), False),
                ("ab", "cd", pattern("cd|bc"), False), ("ab", "cd", pattern("cd|d."), True),
                ("ab", "cd", pattern("cd(ab)?"), False), ("ab", "cd", pattern("cda?b?c"), False),
                ("ab|c", "d", pattern("d|bdc"), False),
                ("ab|c", "d", pattern("d|bde"), True), ("a", "bb", pattern("b{2,3}"), True),
                ("a|b", "bb", pattern("b{2,3}"), False),
                ("aa", "bab", pattern("bab|aab"), False), ("(ab)+", "c", pattern("c|abab"), False),
                ("ab", "c", pattern("c|abab"), True),
                ("a{3}", "b", pattern("b|a{4}"), True), ("a{3}", "b", pattern("b|a{3}$"), False),
                ("ab", "cd", pattern("cd|bcda"), False), ("ab", "cd", pattern("cd|bcdb"), True),
                ("ab", "cd", pattern("cd|bcdabc"), False), ("a", "bcd", pattern("bcd|abcda$"), False),
                ("a", "bcd", pattern("bcd|abcdaa"), True), ("a", "bcd", pattern("bcd(a|ab.)?"), False),
                ("a", "bcd", pattern("bcd(abce|abcc)?"), True), ("ab", "cd", pattern("cd|bc$"), True),
                ("ab", "cd", pattern("cd|a$"), True), ("ab", "cd", pattern("cd|b$"), False),
                ("abcd", "e", pattern("e|d"), False), ("abcd", "e", pattern("e|dc"), True),
                ("abcd", "e", pattern("e|cd$"), False), ("abcd", "e", pattern("e|cdea"), False),
                ("a|bcde", "f", pattern("f|de"), False),
                ("a$", "b", pattern("b.*"), False)]:
            self.check(read_pattern(form), joint, separator, kept)

    def test_against_the_slow_way(self):
        random = random_of("kept")
        maker = Patterns(random)
        counts = {True: 0, False: 0}
        for at in range(1500 * MANY):
            separator = ("pattern", small(maker, 5))
            if at % 3 == 0:
                separator = random.choice([BLANKS, EACH, sign("b"), sign(" ")])
            texts, joint = small(Patterns(random, random.choice(["ab", "ac", "c", "a"])), 5), "".join(
                random.choice("aab ") for _ in range(random.randrange(3)))
            value = unkept(texts, joint, separator)
            self.check(texts, joint, separator, value is None)
            if value is None:
                some = [text for text in SHORT if slowpatterns.whole(texts, text)]
                counts[bool(some)] += 1
                for _ in range(15 if some else 0):
                    rows = [random.choice(some) for _ in range(random.randrange(1, 4))]
                    self.assertTrue(slowrecords.is_kept(rows, joint, separator), (texts, joint, separator, rows))
        self.assertGreater(counts[True], 20)


SHORT = ["".join(signs) for many in range(5) for signs in itertools.product("abc", repeat=many)] + [" ", "a ", " a"]


class TestRecords(Case):

    def test_record_of(self):
        self.assertEqual(record_of(" a b ", " ", "\n"), (" a b ", ("a", "b")))
        self.assertEqual(record_of("a,b\nc", ",", "\n"), ("a,b\nc", ("a", "b\nc")))
        self.assertEqual(record_of("a,b\nc", ",", ""), ("a,b\nc", ("a", "b", "c")))
        self.assertEqual(record_of("a1b\nc", "[0-9]|x", ""), ("a1b\nc", ("a", "b", "c")))
        self.assertEqual(record_of("ab\n", "", ""), ("ab\n", ("a", "b")))
        self.assertEqual(record_of("ab\n", "", "(("), ("ab\n", ("a", "b", "\n")))
        self.assertEqual(record_of("", ",", "\n"), ("", ()))
        self.raises_with(RunError, "word", "pattern", record_of, "", "((", "")

    def test_field_number(self):
        for one, number in [(("number", 0, 1), 0), (("number", 4001, 1), 4001), (("number", 8003, 2), 4001),
                (("number", -1, 2), 0),
                            (("text", "2x"), 2), (("seen", " 3.9"), 3), (("unset",), 0), (("text", "abc"), 0),
                            (("text", "-.99"), 0)]:
            self.assertEqual(field_number(one), number)
        for one in [("number", -1, 1), ("number", 4002, 1), ("text", "-1x"), ("text", "9" * 70),
                ("number", -10 ** 60, 1), ("seen", "4002.5")]:
            self.raises_with(RunError, "word", "field", field_number, one)

    def test_field_value(self):
        record = ("a 1", ("a", "1"))
        self.assertEqual([field_value(record, at) for at in (0, 1, 2, 3, 4001)],
                         [("seen", "a 1"), ("seen", "a"), ("seen", "1"), ("unset",), ("unset",)])
        self.assertEqual(field_value(("", ()), 0), ("seen", ""))

    def test_with_field(self):
        record = ("a b", ("a", "b"))
        for number, text, joint, made in [(1, "x", "-", ("x-b", ("x", "b"))), (2, "", ",", ("a,", ("a", ""))),
                (3, "c", "", ("abc", ("a", "b", "c"))),
                                          (1, "a", " ", record),
                                          (5, "e", "::", ("a::b::::::e", ("a", "b", "", "", "e")))]:
            self.assertEqual(with_field(record, number, text, joint), made)
        self.assertEqual(with_field(("", ()), 1, "", "-"), ("", ("",)))
        self.assertEqual(with_field(("a  b", ("a", "b")), 2, "b", " "), ("a b", ("a", "b")))
        full = with_field(("", ()), 4001, "", "-")
        self.assertEqual((full[0], len(full[1])), ("-" * 4000, 4001))
        self.raises_with(RunError, "word", "long", with_field, ("", ()), 4001, "x", "-")
        self.assertEqual(len(with_field(("", ()), 4001, "x" * 4000, "")[1]), 4001)
        self.raises_with(RunError, "word", "long", with_field, record, 1, "x" * 3999, "-")

    def test_with_count(self):
        record = ("a  b", ("a", "b"))
        for number, joint, made in [(0, "-", ("", ())), (1, "-", ("a", ("a",))), (2, "-", ("a-b", ("a", "b"))),
                                    (4, "-", ("a-b--", ("a", "b", "", ""))), (3, "", ("ab", ("a", "b", "")))]:
            self.assertEqual(with_count(record, number, joint), made)
        self.assertEqual(with_count(("", ()), 4001, "-")[0], "-" * 4000)
        self.raises_with(RunError, "word", "long", with_count, ("", ()), 4001, "--")
        self.raises_with(RunError, "word", "long", with_count, ("a", ("a",)), 4001, "-")


class TestTakings(Case):

    def test_by_hand(self):
        for text, at, whole, separator, result in [("", 0, True, sign("\n"), NOTHING), ("", 0, False, sign("\n"), MORE),
                ("\n", 0, True, sign("\n"), ("record", "", 1)), ("a", 0, False, sign("\n"), MORE),
                ("a", 0, True, sign("\n"), ("record", "a", 1)),
                ("a\n", 0, True, sign("\n"), ("record", "a", 2)), ("a\n", 2, True, sign("\n"), NOTHING),
                ("ab", 1, True, sign(","), ("record", "b", 2)),
                ("", 0, True, PARAGRAPHS, NOTHING), ("\n\n\n", 0, True, PARAGRAPHS, NOTHING),
                ("\n\n\n", 0, False, PARAGRAPHS, MORE),
                ("\n\na", 0, True, PARAGRAPHS, ("record", "a", 3)), ("a\n", 0, True, PARAGRAPHS, ("record", "a", 2)),
                ("a\n", 0, False, PARAGRAPHS, MORE), ("a\n\n", 0, False, PARAGRAPHS, ("record", "a", 3)),
                ("\na\n\n\nb", 0, False, PARAGRAPHS, ("record", "a", 4)),
                ("\na\n\n\nb", 4, True, PARAGRAPHS, ("record", "b", 6)),
                ("a\nb\n\n", 0, True, PARAGRAPHS, ("record", "a\nb", 5)),
                ("", 0, True, pattern("a+"), NOTHING), ("", 0, False, pattern("a+"), MORE),
                ("a", 0, True, pattern("a+"), ("record", "", 1)),
                ("a", 0, False, pattern("a+"), MORE), ("ab", 0, False, pattern("a+"), ("record", "", 1)),
                ("xa", 0, True, pattern("^a"), ("record", "xa", 2)),
                ("xa", 1, True, pattern("^a"), ("record", "", 2)),
                ("xab", 1, False, pattern("^a"), ("record", "", 2)), ("xa", 0, False, pattern("a"), ("record", "x", 2)),
                ("xa", 0, False, pattern("a$"), MORE), ("xa", 0, True, pattern("a$"), ("record", "x", 2)),
                ("xax", 0, False, pattern("a$"), MORE),
                ("xaxb", 0, False, pattern("a|xaxbc"), MORE),
                ("xaxc", 0, False, pattern("a|xaxbc"), ("record", "x", 2)),
                ("xa", 0, False, pattern("a|b$"), ("record", "x", 2)),
                ("xb", 0, False, pattern("a|b$"), MORE), ("xab", 0, False, pattern("ab|abc"), MORE),
                ("xab", 0, False, pattern("ab|ab$c"), ("record", "x", 3)),
                ("xab", 0, False, pattern("ab(c$)?"), MORE), ("ab", 0, False, pattern("()"), MORE),
                ("ab", 0, True, pattern("()"), ("record", "ab", 2)),
                ("xa", 0, False, pattern("a|xa$"), MORE), ("xa", 0, True, pattern("a|xa$"), ("record", "", 2))]:
            self.assertEqual(next_record(text, at, whole, separator), result, (text, at, whole, separator))
            if not whole:
                self.check_unsettled(text[at:], separator, result == MORE)

    def check_unsettled(self, rest, separator, holds):
        value = unsettled(rest, separator)
        self.assertEqual(value is not None, holds, (rest, separator))
        if holds:
            one, other = [slowrecords.taking(rest + more, separator) for more in value]
            self.assertNotEqual(one, other, (rest, separator, value))

    def test_long_ways_on(self):
        """Only one way on leads to another cut."""
        for form, rest, holds in [(";|;abcd", "x;", True), (";|;abcd", "x;a", True), (";|;abcd", "x;abc", True),
                (";|;abcd", "x;b", False), ("b|abcde", "ab", True), ("b|abcde", "abcd", True),
                ("b|abcde", "abd", False),
                (";+(a[b-d]e)?", "x;", True), (";+(a[b-d]e)?", "x;ac", True), (";(ab)*c?", "x;abab", True),
                (";(ab)*c?", "x;abc", False), (";(ab)*c?", "x;aa", False), (";|;a$b", "x;a", False),
                ("(bc)+", "xbc", True),
                (";|;a$b", "x;", False), (";|;ca^b", "x;", False), (";|;(a$b|c)", "x;", True),
                (";|;(ad$b|cd)", "x;a", False), (";|;(ad$b|cd)", "x;c", True), ("b(aa$a)*", "b", False),
                ("b(a^)*", "b", False), ("b(ac|a$b)*", "ba", True),
                (";|;^a", "x;", False),
                ("x(yz)*w|y", "xyz", True), ("x(yz)*w|y", "xyzy", True), ("x(yz)*w|y", "xyy", False),
                ("c|a(b|cd)e$", "ac", True), ("c|a(b|cd)e$", "acde", True), ("c|a(b|cd)e$", "acdef", False)]:
            self.check_unsettled(rest, pattern(form), holds)

    def random_separator(self, maker):
        return maker.random.choice([sign(maker.random.choice("ab\n")),
                PARAGRAPHS] + [("pattern", small(maker, 4)) for _ in range(3)])

    def test_against_the_slow_way(self):
        random = random_of("takings")
        maker = Patterns(random)
        counts = {True: 0, False: 0}
        for _ in range(1200 * MANY):
            separator = self.random_separator(maker)
            text = "".join(random.choice("aab\n") for _ in range(random.randrange(7)))
            first = slowrecords.taking(text, separator)
            self.assertEqual(next_record(text, 0, True, separator), NOTHING if first is None else ("record",) + first)
            value = unsettled(text, separator)
            counts[value is None] += 1
            if value is None:
                self.assertEqual({slowrecords.taking(text + more, separator) for more in BEHIND[:40]}, {first},
                        (text, separator))
                self.assertEqual(next_record(text, 0, False, separator), ("record",) + first)
            else:
                one, other = [slowrecords.taking(text + more, separator) for more in value]
                self.assertNotEqual(one, other, (text, separator, value))
                self.assertEqual(next_record(text, 0, False, separator), MORE)
            # A text ahead that was taken does not matter.
            self.assertEqual(next_record("ab" + text, 2, True, separator)[:2],
                    next_record(text, 0, True, separator)[:2])
        self.assertGreater(min(counts.values()), 100)

    def test_s3(self):
        random = random_of("S3")
        maker = Patterns(random)
        for _ in range(600 * MANY):
            separator = self.random_separator(maker)
            text = "".join(random.choice("aab\n") for _ in range(random.randrange(8)))
            if unsettled(text, separator) is None:
                for more in BEHIND[:13]:
                    self.assertIsNone(unsettled(text + more, separator))
                    self.assertEqual(next_record(text + more, 0, False, separator),
                            next_record(text, 0, False, separator))
            rest, texts = text, []
            while slowrecords.taking(rest, separator) is not None:
                one, many = slowrecords.taking(rest, separator)
                texts.append(one)
                rest = rest[many:]
            self.assertEqual(record_texts(text, separator), texts)
            self.assertEqual(self.in_pieces(text, separator, random), texts, (text, separator))

    def in_pieces(self, text, separator, random):
        """The records of an input that is cut at some places, each taken as soon as it is settled."""
        at, told, texts = 0, 0, []
        while True:
            found = next_record(text[:told], at, False, separator)
            if found[0] == "record":
                texts.append(found[1])
                at = found[2]
            elif told == len(text):
                break
            else:
                told = random.randrange(told + 1, len(text) + 1)
        while True:
            found = next_record(text, at, True, separator)
            if found == NOTHING:
                return texts
            texts.append(found[1])
            at = found[2]

    def test_s4(self):
        random = random_of("S4")
        for _ in range(300 * MANY):
            text = "".join(random.choice("ab\n") for _ in range(random.randrange(7)))
            self.assertIs(unsettled(text, sign("b")) is None, "b" in text)
            self.assertIs(unsettled(text, PARAGRAPHS) is None, "\n\n" in text.lstrip("\n"))

    def test_too_long(self):
        for separator, mark in [(sign("\n"), "\n"), (PARAGRAPHS, "\n\n"), (pattern(",+"), ",")]:
            for whole in [True, False]:
                if separator[0] == "pattern" and not whole:
                    mark = ",\n"
                good, bad = "a" * 4000 + mark, "a" * 4001 + mark
                self.assertEqual(next_record(good, 0, whole, separator)[1], "a" * 4000)
                self.raises_with(RunError, "word", "long", next_record, bad, 0, whole, separator)
            self.assertEqual(next_record("a" * 4001, 0, False, separator), MORE)
            self.raises_with(RunError, "word", "long", next_record, "a" * 4001, 0, True, separator)
            self.assertEqual(next_record("a" * 4001, 1, True, separator), ("record", "a" * 4000, 4001))
            self.raises_with(RunError, "word", "long", record_texts, good + bad, separator)
            self.assertEqual(record_texts(good, separator)[0], "a" * 4000)

    def test_limits(self):
        begun = time.process_time()
        line = "ab,cd;;ef " * 40
        for form in ["[,;]+", ".*x", "(a|b)*,", "b,|d;+", "^a.*f$", "[^x]+"]:
            separator = pattern(form)
            for text in [line, "a" * 400]:
                self.check_sizes(text, separator)
                record_texts(text, separator)
                value = unsettled(text, separator)
                self.assertEqual(next_record(text, 0, False, separator) == MORE, value is not None)
        self.assertEqual(len(record_texts("a\n" * 10000, sign("\n"))), 10000)
        self.assertEqual(next_record("a" * 3000 + "\n" + "b" * 16999, 0, False, pattern("\n+")),
                ("record", "a" * 3000, 3001))
        self.assertLess(time.process_time() - begun, 20)

    def check_sizes(self, text, separator):
        many = sum(len(field) for field in parted(text, separator))
        self.assertEqual(many + sum(end - start for start, end in gaps(text, separator)), len(text))


if __name__ == "__main__":
    unittest.main()
