"""[33], [34] and the facts R6 to R10: acceptors."""

import itertools
import time
import unittest

import slowpatterns
from patterndeeds.acceptors import (
    accepts, alike, count_whole, fitting, groups, holding_acceptor, is_least, is_parting, nth_whole, number_whole,
    parting, parting_end, state_after, whole_acceptor, within,
)
from patterndeeds.matching import cuts, found, stretches
from patterndeeds.patterns import read_pattern, size
from helper import MANY, VALUES, Case, Row, Rows, Text, random_of
from slowpatterns import SIGNS, Patterns

ALL = "".join(SIGNS)
# Texts by length: those of a few signs, the tab first, as it is the first sign of all.
TEXTS = ["".join(signs) for many in range(5) for signs in itertools.product("\tabc", repeat=many)]


def others(signs):
    """All signs but some, as a string."""
    return "".join(sign for sign in SIGNS if sign not in signs)


def by_length(text):
    return len(text), text


def small(maker, most):
    """A random pattern of at most this size."""
    while True:
        pattern = maker.pattern(maker.random.randrange(1, most + 1))
        if size(pattern) <= most:
            return pattern


def rebuilt(acceptor):
    """The least acceptor of the same texts, worked out from an acceptor by the pairs of states that are parted."""
    blocks, rows, ends = acceptor
    number = {sign: at for at, block in enumerate(blocks) for sign in block}
    parted = {(a, b) for a in range(len(rows)) for b in range(len(rows)) if ends[a] != ends[b]}
    while True:
        more = {(a, b) for a in range(len(rows)) for b in range(len(rows)) if (a, b) not in parted
                and any((rows[a][at], rows[b][at]) in parted for at in range(len(blocks)))}
        if not more:
            break
        parted |= more
    same = [min(b for b in range(len(rows)) if (a, b) not in parted) for a in range(len(rows))]
    order, at = [same[0]], 0
    signs = {}
    for sign in SIGNS:
        column = tuple(same[row[number[sign]]] for row in rows)
        signs.setdefault(column, []).append(sign)
    columns = list(signs)
    while at < len(order):
        for column in columns:
            if column[order[at]] not in order:
                order.append(column[order[at]])
        at += 1
    # Columns that differ in states alone that nobody comes to are one.
    merged = {}
    for column in columns:
        merged.setdefault(tuple(order.index(column[state]) for state in order), []).extend(signs[column])
    rows = [tuple(column[at] for column in merged) for at in range(len(order))]
    return (["".join(sorted(some)) for some in merged.values()], rows, [ends[state] for state in order])


class TestExamples(Case):

    def test_examples(self):
        self.assertEqual([whole_acceptor(read_pattern("a*b"))[1:],
                alike(read_pattern("(ab)*a"), read_pattern("a(ba)*")),
                          is_parting(read_pattern("^a"), read_pattern("a"), ("ba", 1, 2))],
                         [([(1, 0, 2), (1, 1, 1), (1, 1, 1)], [False, False, True]), True, True])
        three = read_pattern("[a-c]{2,3}")
        self.assertEqual([count_whole(three, 2), nth_whole(three, 0), nth_whole(three, 9), nth_whole(three, 36),
                          number_whole(three, "ccc"), within(read_pattern("a*"), read_pattern("a|aa|"))],
                         [9, "aa", "aaa", None, 35, "aaa"])
        self.assertEqual(fitting([read_pattern("^a"), read_pattern("b$")], [read_pattern("ab")]), "a\tb")


class TestLeast(Case):

    def test_by_hand(self):
        for form, acceptor in [("a", ([others("a"), "a"], [(1, 2), (1, 1), (1, 1)], [False, False, True])),
                (".*", ([ALL], [(0,)], [True])), ("$a", ([ALL], [(0,)], [False])),
                ("", ([ALL], [(1,), (1,)], [True, False])),
                ("[\t-b]", (["".join(sign for sign in SIGNS if sign <= "b"),
                "".join(sign for sign in SIGNS if sign > "b")],
                 [(1, 2), (2, 2), (2, 2)], [False, True, False])),
                ("^a$|^$", ([others("a"), "a"], [(1, 2), (1, 1), (1, 1)], [True, False, True])),
                ("(ab)*", ([others("ab"), "a", "b"], [(1, 2, 1), (1, 1, 1), (1, 1, 0)], [True, False, False]))]:
            self.assertEqual(whole_acceptor(read_pattern(form)), acceptor, form)
        for form, acceptor in [("a", ([others("a"), "a"], [(0, 1), (1, 1)], [False, True])),
                ("", ([ALL], [(0,)], [True])),
                ("^a", ([others("a"), "a"], [(1, 2), (1, 1), (2, 2)], [False, False, True])),
                ("a$", ([others("a"), "a"], [(0, 1), (0, 1)], [False, True])), ("$a", ([ALL], [(0,)], [False])),
                ("^$", ([ALL], [(1,), (1,)], [True, False]))]:
            self.assertEqual(holding_acceptor(read_pattern(form)), acceptor, form)

    def test_against_the_slow_way(self):
        random = random_of("acceptors")
        maker = Patterns(random)
        for _ in range(200 * MANY):
            pattern = small(maker, 5)
            for acceptor, slow in [(whole_acceptor(pattern), slowpatterns.whole),
                                   (holding_acceptor(pattern), slowpatterns.holds)]:
                for text in TEXTS[:21] + random.sample(TEXTS, 30):
                    self.assertIs(accepts(acceptor, text), slow(pattern, text), (pattern, text))
                self.assertIs(is_least(acceptor), True)
                self.assertEqual(rebuilt(acceptor), acceptor)

    def test_r7(self):
        """Patterns that take the same texts whole have one least acceptor."""
        for one, other in [("(ab)*a", "a(ba)*"), ("a*", "(a*)*"), ("a|b", "[ab]"), ("a?a?", "|a|aa"), ("^a", "a"),
                ("a$", "a"),
                           ("(a|b)*", "(a*b*)*"), ("[\t-~]", "."), ("a{2,}", "aaa*"), ("$a", "a^b")]:
            self.assertEqual(whole_acceptor(read_pattern(one)), whole_acceptor(read_pattern(other)))
        for one, other in [("a", "a*a"), ("^", ""), ("ab|a", "a"), (".*a.*", "a"), ("", "(a|b)*")]:
            self.assertEqual(holding_acceptor(read_pattern(one)), holding_acceptor(read_pattern(other)))
        self.assertNotEqual(holding_acceptor(read_pattern("^a")), holding_acceptor(read_pattern("a")))

    def test_is_least(self):
        good = whole_acceptor(read_pattern("a*b"))
        blocks, rows, ends = good
        self.assertIs(is_least(good), True)
        for value in VALUES + [list(good), Row(good), good[:2], good + ([],), (tuple(blocks), rows, ends),
                (blocks, tuple(rows), ends), (blocks, rows, tuple(ends)), (Rows(blocks), rows, ends),
                (blocks, rows, ends[:2]),
                (blocks, rows[:2], ends[:2]), (blocks, rows + [(1, 1, 1)], ends + [True]), (blocks, [], []),
                (blocks, rows, [0, 0, 1]), (blocks, rows, [None] * 3), (blocks, [list(row) for row in rows], ends),
                (blocks, [row[:2] for row in rows], ends), (blocks, [row + (1,) for row in rows], ends),
                (blocks, [(True, 0, 2), (1, 1, 1), (1, 1, 1)], ends), (blocks, [(3, 0, 2), (1, 1, 1), (1, 1, 1)], ends),
                (blocks, [(-1, 0, 2), (1, 1, 1), (1, 1, 1)], ends), (blocks, [("1", 0, 2), (1, 1, 1), (1, 1, 1)], ends),
                (blocks[:2], [row[:2] for row in rows], ends), (blocks[::-1], [row[::-1] for row in rows], ends),
                (["b" + others("ab"), "a"], [(1, 0), (1, 1), (1, 1)], ends),
                ([blocks[0][::-1]] + blocks[1:], rows, ends),
                ([blocks[0] + "a"] + blocks[1:], rows, ends),
                ([blocks[0], "a", "b", ""], [row + (1,) for row in rows], ends),
                ([blocks[0], "a", 1], rows, ends), ([blocks[0], "a", Text("b")], rows, ends),
                ([ALL + "%"], [(0,)], [True]),
                # Not all states are come to; two accept the same texts; two blocks are alike; other numbers.
                ([ALL], [(0,), (1,)], [True, False]), ([ALL], [(1,), (1,)], [True, True]),
                ([others("a"), "a"], [(0, 0)], [True]), (blocks, [(2, 0, 1), (2, 2, 2), (2, 2, 2)],
                [False, True, False]),
                ([others("a"), "a"], [(1, 2), (0, 0), (0, 0)], [True, False, False]),
                # The blocks: in another order, without a sign, with a sign twice or none, not ascending; no state.
                (["a", others("a")], [(1, 2), (2, 2), (2, 2)], [False, True, False]),
                ([others("aq"), "a"], [(1, 2), (1, 1), (1, 1)], [False, False, True]),
                ([ALL, "a"], [(1, 2), (1, 1), (1, 1)], [False, False, True]),
                (["", ALL], [(0, 1), (0, 0)], [True, False]),
                ([others("ab"), "ba"], [(1, 2), (1, 1), (1, 1)], [False, False, True]), ([ALL], [], []),
                ([], [()], [True])]:
            self.assertIs(is_least(value), False, value)
        self.assertIs(is_least(([ALL], [(0,)], [False])), True)
        self.assertIs(is_least(([ALL], [(1,), (0,)], [True, False])), True)

    def test_state_after(self):
        acceptor = whole_acceptor(read_pattern("a*b"))
        for text, state in [("", 0), ("a", 0), ("aab", 2), ("b", 2), ("bb", 1), ("c", 1), ("\t", 1), ("aaaa", 0)]:
            self.assertEqual(state_after(acceptor, text), state)
            self.assertIs(accepts(acceptor, text), state == 2)
        self.assertEqual(state_after(acceptor, "a" * 4000 + "b"), 2)

    def test_parting_end(self):
        maker = Patterns(random_of("parting ends"))
        for _ in range(100 * MANY):
            acceptor = whole_acceptor(small(maker, 4))
            blocks, rows, ends = acceptor
            many = len(rows)
            for state in range(many):
                for other in range(many):
                    found_end = parting_end(acceptor, state, other)
                    self.assertEqual(found_end is None, state == other)
                    if found_end is not None:
                        # R8
                        self.assertLessEqual(len(found_end), many - 2)
                        self.assertIs(self.ends_at(acceptor, state, found_end) != self.ends_at(acceptor, other,
                                found_end), True)
                        for text in TEXTS[:85]:
                            if by_length(text) < by_length(found_end):
                                self.assertIs(self.ends_at(acceptor, state, text), self.ends_at(acceptor, other, text))
        loose = (["".join(SIGNS)], [(0,), (1,)], [True, True])
        self.assertIsNone(parting_end(loose, 0, 1))

    def ends_at(self, acceptor, state, text):
        for sign in text:
            state = acceptor[1][state][[sign in block for block in acceptor[0]].index(True)]
        return acceptor[2][state]


class TestAlike(Case):

    def parted(self, one, other, text, start, end):
        return slowpatterns.takes(one, text, start, end) != slowpatterns.takes(other, text, start, end)

    def test_by_hand(self):
        for one, other, many in [("a", "a", None), ("a*", "(a|aa)*", None), ("^a", "a", 1), ("a$", "a", 1),
                ("^", "", 0), ("$", "", 0),
                ("^$", "^", 0), ("a*", "a+", 0), ("ab", "ac", 2), ("a{3}", "a{4}", 3), ("^*a", "a", None),
                ("(^|a)b", "^b|ab", None),
                ("a^", "$a", None), ("(^a)*", "(^a)?", None), ("(^a|a)*", "a*", None), ("[^a]", "[^ab]", 1),
                ("(a$)*", "(a$)?", None), ("^a$", "$a", 1), ("^a", "^a$", 1), ("a$", "^a$", 1), ("a", "^a|a$", 1),
                ("^|$", "", 0), ("b", "^b|b$|^aaa$", 1), ("aa$|bbb", "^aa$|^bbb|bbb$", 2), ("^$", "$a", 0),
                ("^", "^$", 0), ("$", "^$", 0)]:
            one, other = read_pattern(one), read_pattern(other)
            value = parting(one, other)
            self.assertIs(alike(one, other), many is None)
            self.assertEqual(value is None, many is None)
            if many is not None:
                self.assertEqual(value[2] - value[1], many)
                self.assertTrue(self.parted(one, other, *value))

    def test_against_the_slow_way(self):
        random = random_of("alike")
        maker = Patterns(random)
        counts = {True: 0, False: 0}
        for _ in range(300 * MANY):
            one, other = small(maker, 4), small(maker, 4)
            if random.random() < 0.3:
                other = random.choice([("repeat", one, 1, 1), one,
                        ("or", (one, ("sign", "a"))) if one[0] != "or" else one])
            value = parting(one, other)
            self.assertIs(alike(one, other), value is None)
            self.assertEqual(parting(other, one) is None, value is None)
            counts[value is None] += 1
            fewest = [end - start for text in TEXTS[:85] for start in range(len(text) + 1)
                      for end in range(start, len(text) + 1) if self.parted(one, other, text, start, end)]
            if value is None:
                self.assertEqual(fewest, [], (one, other))
                self.check_r6(one, other)
            else:
                self.assertIs(is_parting(one, other, value), True)
                self.assertTrue(self.parted(one, other, *value))
                self.assertLessEqual(value[2] - value[1], min(fewest, default=99))
                if value[2] - value[1] <= 1:
                    self.assertEqual(value[2] - value[1], min(fewest))
            self.check_r9(one, other, value is None)
        self.assertGreater(min(counts.values()), 20)

    def check_r6(self, one, other):
        for text in ["", "ab", "abab", "bbaac"]:
            for action in [stretches, cuts, found]:
                self.assertEqual(action(one, text), action(other, text))

    def check_r9(self, one, other, same):
        any_sign = ("any",)
        rows = [lambda part: part, lambda part: row(any_sign, part), lambda part: row(part, any_sign),
                lambda part: row(any_sign, part, any_sign)]
        self.assertIs(all(within(make(one), make(other)) is None and within(make(other),
                make(one)) is None for make in rows), same)

    def test_is_parting(self):
        one, other = read_pattern("^a"), read_pattern("a")
        self.assertIs(is_parting(one, other, ("ba", 1, 2)), True)
        self.assertIs(is_parting(other, one, ("ba", 1, 2)), True)
        self.assertIs(is_parting(one, other, ("b" * 3999 + "a", 3999, 4000)), True)
        for value in VALUES + [("ba", 0, 2), ("a", 0, 1), ("ba", 1, 1), ("ba", 1, 3), ("ba", 2, 1), ("ba", -1, 2),
                ("ba", 1), ("ba",),
                ("ba", 1, 2, 3), ["ba", 1, 2], Row(("ba", 1, 2)), (Text("ba"), 1, 2), ("ba", True, 2), ("ba", "1", 2),
                ("ba", 1, None),
                (None, 1, 2), ("%a", 1, 2), ("\ra", 1, 2), (("b", "a"), 1, 2), ("ba", 10 ** 80, 10 ** 80)]:
            self.assertIs(is_parting(one, other, value), False, value)

    def test_within(self):
        for one, other, text in [("a*", "a|aa|", "aaa"), ("a", "a|b", None), ("", "a", ""), ("$a", "b", None),
                ("[^a]", "b", "\t"),
                ("a.", "a[^\t\n]", "a\t"), ("(a|b)*", "a*b*", "ba"), ("^a", "a", None), ("a|bb|c", "a", "c")]:
            self.assertEqual(within(read_pattern(one), read_pattern(other)), text)
        random = random_of("within")
        maker = Patterns(random)
        for _ in range(200 * MANY):
            one, other = small(maker, 5), small(maker, 5)
            text = within(one, other)
            rows = [row for row in TEXTS if slowpatterns.whole(one, row) and not slowpatterns.whole(other, row)]
            if text is None:
                self.assertEqual(rows, [])
            else:
                self.assertTrue(slowpatterns.whole(one, text) and not slowpatterns.whole(other, text))
                self.assertTrue(all(by_length(text) <= by_length(row) for row in rows))
                # R8
                many = len(whole_acceptor(one)[1]) + len(whole_acceptor(other)[1])
                self.assertLessEqual(len(text), many - 2)


def row(*parts):
    """The row of some patterns."""
    found = []
    for part in parts:
        found.extend(part[1] if part[0] == "row" else [part])
    return found[0] if len(found) == 1 else ("row", tuple(found))


class TestCounts(Case):

    def test_by_hand(self):
        self.assertEqual([count_whole(read_pattern("."), many) for many in range(3)], [0, 96, 0])
        self.assertEqual([count_whole(read_pattern(".*"), many) for many in (0, 1, 40)], [1, 96, 96 ** 40])
        self.assertEqual([count_whole(read_pattern("a*b?"), many) for many in range(4)], [1, 2, 2, 2])
        self.assertEqual(count_whole(read_pattern("$a"), 1), 0)
        everything = read_pattern(".*")
        for number, text in [(0, ""), (1, "\t"), (2, "\n"), (3, " "), (96, "~"), (97, "\t\t"), (98, "\t\n")]:
            self.assertEqual(nth_whole(everything, number), text)
            self.assertEqual(number_whole(everything, text), number)
        total = sum(96 ** many for many in range(41))
        self.assertEqual(nth_whole(everything, total - 1), "~" * 40)
        self.assertIsNone(nth_whole(everything, total))
        self.assertIsNone(nth_whole(everything, 10 ** 89))
        self.assertEqual(number_whole(everything, "~" * 40), total - 1)
        self.assertIsNone(nth_whole(read_pattern("a^"), 0))
        self.assertIsNone(number_whole(read_pattern("a"), "b"))
        self.assertEqual(nth_whole(read_pattern("a*"), 40), "a" * 40)
        self.assertIsNone(nth_whole(read_pattern("a*"), 41))

    def test_against_the_slow_way(self):
        random = random_of("counts")
        maker = Patterns(random)
        for _ in range(150 * MANY):
            pattern = small(maker, 6)
            for many in range(2):
                rows = [text for text in ([""] if many == 0 else SIGNS) if slowpatterns.whole(pattern, text)]
                self.assertEqual(count_whole(pattern, many), len(rows))
            number = random.randrange(300)
            text = nth_whole(pattern, number)
            total = sum(count_whole(pattern, many) for many in range(41))
            self.assertEqual(text is None, number >= total)
            if text is not None:
                self.assertTrue(slowpatterns.whole(pattern, text))
                self.assertEqual(number_whole(pattern, text), number)
                later = nth_whole(pattern, number + 1)
                if later is not None:
                    self.assertLess(by_length(text), by_length(later))
            for text in random.sample(TEXTS, 8):
                number = number_whole(pattern, text)
                self.assertEqual(number is not None, slowpatterns.whole(pattern, text))
                if number is not None:
                    self.assertEqual(nth_whole(pattern, number), text)

    def test_few_texts(self):
        """All texts of a pattern that takes few, in their order."""
        for form in ["a|b|", "[ab]{0,3}", "(a|bb)?c?", "b|a|ab|aa", "^a?$"]:
            pattern = read_pattern(form)
            rows = sorted([text for text in TEXTS if slowpatterns.whole(pattern, text)], key=by_length)
            self.assertEqual([nth_whole(pattern, at) for at in range(len(rows) + 1)], rows + [None])
            self.assertEqual([number_whole(pattern, text) for text in rows], list(range(len(rows))))


class TestGroups(Case):

    def test_empty_lists(self):
        self.assertEqual(fitting([], []), "")
        self.assertEqual(groups([]), [((), "")])
        self.assertEqual(fitting([], [read_pattern("^$")]), "\t")
        self.assertEqual(fitting([read_pattern("a")], []), "a")
        self.assertIsNone(fitting([], [read_pattern("")]))
        self.assertIsNone(fitting([read_pattern("a$")], [read_pattern("a")]))

    def test_by_hand(self):
        self.assertEqual(groups([read_pattern("a"), read_pattern("b")]),
                         [((False, False), ""), ((False, True), "b"), ((True, False), "a"), ((True, True), "ab")])
        self.assertEqual(groups([read_pattern("^a"), read_pattern("a")]),
                         [((False, False), ""), ((False, True), "\ta"), ((True, True), "a")])
        self.assertEqual(groups([read_pattern("")] * 2), [((True, True), "")])

    def test_against_the_slow_way(self):
        random = random_of("groups")
        maker = Patterns(random)
        for _ in range(120 * MANY):
            some = [small(maker, 3) for _ in range(random.randrange(3))]
            rest = [small(maker, 2) for _ in range(random.randrange(3))]
            kept = repr((some, rest))
            text = fitting(some, rest)
            wanted = tuple([True] * len(some) + [False] * len(rest))
            rows = {}
            for one in TEXTS[:341]:
                rows.setdefault(tuple(slowpatterns.holds(part, one) for part in some + rest), one)
            if text is None:
                self.assertNotIn(wanted, rows)
            else:
                self.assertEqual(tuple(slowpatterns.holds(part, text) for part in some + rest), wanted)
                self.assertLessEqual(by_length(text), by_length(rows.get(wanted, "~" * 40)))
                # R10
                states = 1
                for part in some + rest:
                    states *= len(holding_acceptor(part)[1])
                self.assertLess(len(text), states)
            self.check_groups(some + rest, rows, wanted, text)
            self.assertEqual(repr((some, rest)), kept)

    def check_groups(self, patterns, rows, wanted, text):
        found_groups = groups(patterns)
        self.assertEqual(found_groups, sorted(found_groups))
        self.assertEqual(dict(found_groups).get(wanted), text)
        self.assertEqual(len(dict(found_groups)), len(found_groups))
        for flags, one in found_groups:
            self.assertEqual(tuple(slowpatterns.holds(part, one) for part in patterns), flags)
        for flags, one in rows.items():
            self.assertLessEqual(by_length(dict(found_groups)[flags]), by_length(one))


class TestLimits(Case):

    def test_sizes_at_the_limits(self):
        """The sizes of all patterns of one call add up to 10."""
        begun = time.process_time()
        large = read_pattern(".*a.{8}")
        acceptor = whole_acceptor(large)
        self.assertEqual((len(acceptor[1]), is_least(acceptor)), (512, True))
        self.assertIs(is_least(holding_acceptor(read_pattern("a.{8}b$"))), True)
        self.assertEqual(count_whole(large, 40), 96 ** 39)
        self.assertEqual(number_whole(large, nth_whole(large, 96 ** 39)), 96 ** 39)
        self.assertEqual(parting_end(acceptor, 0, 1), "\t" * 8)
        one, other = read_pattern(".*a.{3}"), read_pattern(".*b.{3}")
        self.assertEqual((alike(one, other), within(one, other)), (False, "a\t\t\t"))
        self.assertEqual(len(groups([read_pattern(form) for form in ["a..", "b..", "^c", "d.$"]])), 16)
        self.assertEqual(fitting([read_pattern("a..b"), read_pattern("b..a")],
                [read_pattern("c$"), read_pattern(".")]), None)
        self.assertLess(time.process_time() - begun, 20)


if __name__ == "__main__":
    unittest.main()
