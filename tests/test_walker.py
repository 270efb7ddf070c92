"""[40] to [47]: runs of programs, by hand."""

import unittest

from patterndeeds.parser import program_of
from patterndeeds.walker import tick_places, walk
from helper import Case

BEGINNING = {"FILENAME": ("text", ""), "FNR": ("number", 0, 1), "FS": ("text", " "), "NF": ("number", 0, 1),
        "NR": ("number", 0, 1),
             "OFS": ("text", " "), "ORS": ("text", "\n"), "RLENGTH": ("number", -1, 1), "RS": ("text", "\n"),
             "RSTART": ("number", 0, 1),
             "SUBSEP": ("text", "\t")}
# A function that tells in which sequence it is called.
TOLD = "\nfunction t(v) { order = order v \";\"; return v }"


def world_of(*texts, asides=()):
    """A world of main files f1, f2 and so on, all whole."""
    return (tuple(("f%d" % at, text, True) for at, text in enumerate(texts, 1)), tuple(asides))


class Outcome:
    """The parts of the outcome of a source in a world."""

    def __init__(self, source, *texts, asides=(), count=400, world=None):
        self.program = program_of(source)
        self.world = world_of(*texts, asides=asides) if world is None else world
        self.ticks, self.end, self.told, self.events = walk(self.program, self.world, count)
        self.places = tick_places(self.program, self.world, count)
        assert len(self.places) == self.ticks
        self.place, self.room, self.frames = self.told
        (self.phase, self.code, scalars, arrays, self.ranges, self.record, self.readers, self.outputs) = self.room
        self.scalars, self.arrays = dict(scalars), {name: dict(table) for name, table in arrays}
        assert list(self.scalars) == sorted(self.scalars)
        self.out = "".join(event[3] for event in self.events if event[:3] == ("write", "", ""))


def number(top, bottom=1):
    return ("number", top, bottom)


class WalkerCase(Case):

    def prints(self, source, wanted, *texts, **more):
        """Checks what a source writes, and that its run comes to its end."""
        outcome = Outcome(source, *texts, **more)
        self.assertEqual((outcome.out, outcome.end), (wanted, ("over", 0)), source)
        return outcome

    def gives(self, expression, wanted, *texts, **more):
        """Checks the text of an expression in a rule for each record."""
        return self.prints("{ print (%s) }%s" % (expression, TOLD), wanted + "\n", *(texts or ("a b 3\n",)), **more)

    def fails(self, source, word, place, *texts, **more):
        outcome = Outcome(source, *texts, **more)
        self.assertEqual(outcome.end, ("error", word, place), source)
        self.assertEqual(outcome.place, place)
        return outcome


class TestExamples(WalkerCase):

    def test_examples(self):
        p = program_of("{ n[$1] = n[$1] + $2 } END { for (k in n) print k, n[k] }")
        world = ((("f", "a 1\nb 2\na 3\n", True),), ())
        self.assertEqual(tick_places(p, world, 100), [0, 1, 2, 0, 1, 2, 0, 1, 2, 0, 3, 4, 5, 4, 5, 4])
        self.assertEqual([walk(p, world, 15)[1], walk(p, world, 100)[:2], walk(p, world, 100)[3][3:]],
                         [("tick", 4), (16, ("over", 0)), [("write", "", "", "a 4\n"), ("write", "", "", "b 2\n")]])


class TestStates(WalkerCase):

    def test_beginning(self):
        for source, phase, end in [("{ x; a[1] }", "main", ("tick", 0)), ("BEGIN { x; a[1] }", "begin", ("tick", 1)),
                ("END { x; a[1] }", "main", ("tick", 0)),
                                   ("function f() { x; a[1] }", "over", ("over", 0)),
                                   ("1, 2 { x; a[1] }", "main", ("tick", 0))]:
            outcome = Outcome(source, "a\n", count=0)
            ranges = (False,) if source.startswith("1") else ()
            self.assertEqual(outcome.told, (0, (phase, 0, tuple(sorted({**BEGINNING, "x": ("unset",)}.items())),
                    (("a", ()),), ranges, ("", ()),
                                                (-1, 0, ()), ()), ()))
            self.assertEqual((outcome.ticks, outcome.end, outcome.events), (0, end, []))

    def test_no_rules(self):
        outcome = Outcome("", "a\n")
        self.assertEqual((outcome.ticks, outcome.end, outcome.phase, outcome.readers),
                (0, ("over", 0), "over", (-1, 0, ())))
        outcome = Outcome("BEGIN { }", "a\n")
        self.assertEqual((outcome.ticks, outcome.end, outcome.readers), (1, ("over", 0), (-1, 0, ())))

    def test_phases(self):
        source = "BEGIN { 1 } { 2 } END { 3 }"
        phases = [Outcome(source, "a\n", count=count).phase for count in range(9)]
        self.assertEqual(phases, ["begin", "begin", "main", "main", "main", "main", "end", "end", "over"])
        self.assertEqual(tick_places(program_of(source), world_of("a\n"), 99), [1, 2, 0, 3, 4, 0, 5, 6])

    def test_rooms_behind_each_tick(self):
        source = "{ x = $2; a[$1] = x; print x > \"o\" } END { getline y < \"g\" }"
        asides = (("<", "g", "q\nr\n", True),)
        last = Outcome(source, "k v\n", asides=asides)
        self.assertEqual(last.places, [0, 1, 2, 3, 4, 0, 5, 6])
        rows = [Outcome(source, "k v\n", asides=asides, count=count) for count in range(9)]
        self.assertEqual([row.place for row in rows], [0, 0, 1, 2, 3, 4, 0, 5, 6])
        self.assertEqual([row.end for row in rows], [("tick", place) for place in last.places] + [("over", 0)])
        self.assertEqual([row.scalars["x"] for row in rows], [("unset",)] * 3 + [("seen", "v")] * 6)
        self.assertEqual([row.arrays["a"] for row in rows], [{}] * 4 + [{"k": ("seen", "v")}] * 5)
        self.assertEqual([row.record for row in rows], [("", ())] + [("k v", ("k", "v"))] * 8)
        self.assertEqual([row.readers for row in rows], [(-1, 0, ())] + [(0, 4, ())] * 7 + [(0, 4, (("<", "g", 2),))])
        self.assertEqual([row.outputs for row in rows], [()] * 5 + [((">", "o", "v\n", True),)] * 4)
        events = [("read", "main", "f1", "k v"), ("write", ">", "o", "v\n"), ("read", "<", "g", "q")]
        self.assertEqual([row.events for row in rows], [[]] + [events[:1]] * 4 + [events[:2]] * 3 + [events])

    def test_counts(self):
        for count, end in [(7, ("tick", 3)), (8, ("tick", 4)), (9, ("over", 0)), (400, ("over", 0)),
                (10 ** 80, ("over", 0))]:
            outcome = Outcome("{ 1 } END { 2 }", "a\nb\n", count=count)
            self.assertEqual((outcome.end, outcome.ticks), (end, min(count, 9)))
        outcome = Outcome("BEGIN { while (1) x++ }", count=400)
        self.assertEqual((outcome.ticks, outcome.end, outcome.scalars["x"]), (400, ("tick", 3), number(199)))


class TestFrames(WalkerCase):

    def test_told_frames(self):
        source = """BEGIN { a[1] = 2; f(a, 3) }
        function f(p, q, r, s) { r["x"] = q; s = 4; g(p, r, q); s = 5 }
        function g(p, q, v) { p[2] = v; q[3] = v; h(q, p); v = 6 }
        function h(p, q) { p[4]; q[5]; return 7 }"""
        rows = [Outcome(source, count=count) for count in range(15)]
        self.assertEqual(rows[-1].places, [1, 2, 3, 4, 5, 6, 8, 9, 10, 12, 13, 14, 11, 7])
        inner = rows[11]
        table = lambda entries: ("table", tuple(sorted(entries.items())))
        own = table({"3": number(3), "4": ("unset",), "x": number(3)})
        self.assertEqual(inner.frames, (("f", (("global", "a"), number(3), own, number(4))),
                ("g", (("global", "a"), ("own", 0, 2), number(3))),
                                        ("h", (("own", 0, 2), ("global", "a")))))
        self.assertEqual(inner.place, 13)
        self.assertEqual(inner.arrays["a"], {"1": number(2), "2": number(3), "5": ("unset",)})
        # The place goes back with each call that ends.
        ends = [Outcome(source, count=count) for count in (12, 13, 14, 400)]
        self.assertEqual([(row.place, [frame[0] for frame in row.frames], row.end) for row in ends],
                         [(10, ["f", "g"], ("tick", 11)), (6, ["f"], ("tick", 7)), (3, [], ("over", 0)),
                         (3, [], ("over", 0))])

    def test_values_in_frames(self):
        source = "BEGIN { f(1, 2) } function f(a, b, c) { a = b; c = a }"
        rows = [Outcome(source, count=count).frames for count in range(5)]
        self.assertEqual(rows, [(), (), (("f", (number(1), number(2), ("unset",))),),
                (("f", (number(2), number(2), ("unset",))),), ()])

    def test_recursion(self):
        self.prints("BEGIN { print f(10) } function f(n) { return n ? n + f(n - 1) : 0 }", "55\n")
        self.prints("BEGIN { f(a, 3); for (k in a) print k, a[k] } function f(p, n, own) { own[n] = n; "
                    "if (n) { p[n] = own[n]; f(p, n - 1) } }",
                    "1 1\n2 2\n3 3\n")
        self.prints("BEGIN { print f(15) } function f(n) { return n ? f(n - 1) : \"end\" }", "end\n")
        outcome = self.fails("BEGIN { print f(16) } function f(n) { return n ? f(n - 1) : 0 }", "deep", 3)
        self.assertEqual(len(outcome.frames), 16)
        self.assertEqual(outcome.frames[15], ("f", (number(1),)))
        # The arguments come ahead of the error.
        outcome = self.fails("BEGIN { f(1) } function f(n) { f(x = x + 1) }", "deep", 3)
        self.assertEqual(outcome.scalars["x"], number(16))

    def test_shared_arrays(self):
        self.prints("BEGIN { f(a) } function f(p) { a[1] = 1; p[2] = 2; print length(p), length(a); delete a; "
                    "print length(p) }", "2 2\n0\n")
        self.prints("BEGIN { f(a, a) } function f(p, q) { p[1] = 1; print q[1] }", "1\n")
        self.prints("BEGIN { f(); f() } function f(p) { print length(p); g(p); "
                    "print length(p) } function g(q) { q[1]; q[2]; split(\"a b c\", q) }",
                    "0\n3\n0\n3\n")
        # An array of its own is new in each call, and gone behind it.
        self.prints("BEGIN { f(2) } function f(n, own) { own[n]; if (n) f(n - 1); for (k in own) print n, k }",
                "0 0\n1 1\n2 2\n")

    def test_missing_arguments(self):
        self.prints("BEGIN { f() } function f(a, b) { print a \"-\" length(b) \"-\" (1 in b) }", "-0-0\n")
        self.prints("BEGIN { x = f(); print \"[\" x \"]\" } function f() { return }", "[]\n")
        self.prints("BEGIN { print \"[\" f() \"]\" (f() == 0) (f() == \"\") } function f() { 1 }", "[]11\n")

    def test_exits_in_calls(self):
        outcome = Outcome("BEGIN { x = 1; f() } END { x = 2 } function f() { g() } function g() { exit 3 }")
        self.assertEqual((outcome.end, outcome.places, outcome.scalars["x"]),
                (("over", 3), [1, 2, 3, 6, 7, 4, 5], number(2)))
        rows = [Outcome("BEGIN { x = 1; f() } END { x = 2 } function f() { g() } function g() { exit 3 }",
                count=count) for count in (4, 5)]
        self.assertEqual([(row.place, row.phase, len(row.frames), row.code) for row in rows],
                [(6, "begin", 2, 0), (3, "end", 0, 3)])


class TestDeeds(WalkerCase):

    def test_setting_fields(self):
        for source, wanted in [("$2 = \"x\"", "a x c|3"), ("$5 = \"x\"", "a b c  x|5"), ("NF = 2", "a b|2"),
                ("NF = 5", "a b c  |5"), ("NF = NF", "a b c|3"),
                ("$0 = \"x y\"", "x y|2"), ("$1 = $1", "a b c|3"), ("NF = 0", "|0"),
                ("$(1 + 1) = 7 / 2", "a 3.5 c|3"), ("OFS = \"-\"; $1 = $1", "a-b-c|3"),
                ("OFS = \"-\"; NF = 4", "a-b-c-|4"), ("FS = \"b\"; $0 = $0", "a b c|2"),
                ("RS = \"\"; FS = \",\"; $0 = \"a,b\\nc\"", "a,b\nc|3"),
                ("NF = \"2x\"", "a b|2"), ("$\"2x\" = 1", "a 1 c|3"), ("$1.9 = \"z\"", "z b c|3"),
                ("$(-0.5) = \"q\"", "q|1"), ("$2 = x", "a  c|3")]:
            self.prints("{ %s; print $0 \"|\" NF }" % source, wanted + "\n", "a b c\n")
        outcome = Outcome("{ $2 = NR; $4 = \"\" }", "a b\n")
        self.assertEqual((outcome.record, outcome.scalars["NF"]), (("a 1  ", ("a", "1", "", "")), number(4)))
        self.prints("{ NF = 1.7; print NF, NF == 1 }", "1 1\n", "a b\n")
        self.prints("{ print (NF = \"1x\"), ($2 = 3 / 2), $2 == 1.5, NF }", "1x 1.5 1 2\n", "a b\n")

    def test_field_errors(self):
        for source in ["$(-1)", "$4002", "$(-1) = 1", "$4002 = 1", "NF = -1", "NF = 4002", "$(-1)++", "$\"-3\" += 1",
                "sub(/a/, 1, $(-1))", "for (NF in a) ;",
                       "$(10 ^ 50)"]:
            source = "{ a[\"-5\"]; %s }" % source
            outcome = Outcome(source, "a b\n")
            self.assertEqual((outcome.end[:2], outcome.record, outcome.scalars["NF"]),
                    (("error", "field"), ("a b", ("a", "b")), number(2)), source)
        for source in ["$4001", "$4001 = \"\"", "NF = 4001"]:
            self.assertEqual(Outcome("{ OFS = \"\"; %s }" % source, "a\n").end, ("over", 0))

    def test_long_errors(self):
        head = "x = sprintf(\"@200s\", \"a\"); x = x x x x x; y = x x x x; "
        for source, value in [("y z", None), ("y 1", "y"), ("$1 = y", None), ("$2 = y", "r"), ("a[y, 1]", "a"),
                ("(y, 1) in a", "a"), ("delete a[y, 1]", "a"),
                              ("gsub(/a/, \"bb\", y)", "y"), ("sprintf(\"@s@s\", y, y)", "y"),
                              ("NF = 4001; NF = 4001; OFS = \"--\"; NF = 4000", "n"), ("print y", None),
                              ("print y > \"o\"", None), ("printf \"@s@s\", y, y", None), ("z = y y", "y")]:
            outcome = Outcome("{ %s %s }" % (head, source), "r\n")
            if value is None and source in ("y z", "$1 = y"):
                self.assertEqual(outcome.end, ("over", 0), source)
                continue
            self.assertEqual(outcome.end[:2], ("error", "long"), source)
            self.assertEqual((outcome.arrays.get("a", {}), outcome.outputs, len(outcome.scalars["y"][1])),
                    ({}, (), 4000))
            if value == "r":
                self.assertEqual(outcome.record, ("r", ("r",)))
        self.assertEqual(Outcome("{ %s ORS = \"\"; print y }" % head, "r\n").end, ("over", 0))

    def test_reading_entries(self):
        outcome = Outcome("{ a[1]; x = a[2]; 3 in a; (1, 2) in a; a[4]++; delete a[5]; length(a[6]); "
                          "sub(/q/, 1, a[7]); split($0, b, a[8]) }", "r\n")
        self.assertEqual(outcome.arrays["a"], {"1": ("unset",), "2": ("unset",), "4": number(1), "6": ("unset",),
                "7": ("unset",), "8": ("unset",)})
        self.prints("{ a[1, 2] = 3; SUBSEP = \"-\"; a[1, 2] = 4; a[\"1-2\"]++; for (k in a) print k, a[k] }",
                "1\t2 3\n1-2 5\n", "r\n")
        self.prints("{ a[1] = 1; a[1.0]++; a[\"1\"]++; a[01]++; a[\"01\"] = 9; a[1 / 3]; "
                    "for (k in a) print k, a[k] }", "0.333333 \n01 9\n1 4\n", "r\n")

    def test_writing(self):
        source = """BEGIN { print 1 > "o"; print 2 > "o"; close("o"); print 3 > "o"; print 4 >> "o"; close("o")
        print 5 >> "o"; print 6 | "o"
        print 7; print 8 > ""; print 9 >> "new"; close("o"); print 10 | "o"; close(""); close("none") }"""
        outcome = Outcome(source)
        self.assertEqual(outcome.outputs, ((">", "o", "3\n4\n5\n", False), ("|", "o", "10\n", True),
                ("", "", "7\n", True), (">", "", "8\n", False),
                                           (">", "new", "9\n", True)))
        self.assertEqual([event[:3] for event in outcome.events if event[0] == "write"],
                         [("write", ">", "o")] * 3 + [("write", ">>", "o")] * 2 + [("write", "|", "o"),
                         ("write", "", ""), ("write", ">", ""), ("write", ">>", "new"),
                                                                              ("write", "|", "o")])
        self.assertEqual([event for event in outcome.events if event[0] == "close"],
                         [("close", "o"), ("close", "o"), ("close", "o"), ("close", ""), ("close", "none")])

    def test_close(self):
        asides = (("<", "g", "1\n2\n", True), ("|", "g", "3\n4\n", True))
        source = """BEGIN { getline x < "g"; "g" | getline y; print x y; print close("g"), close("g"), close("h")
        getline x < "g"; "g" | getline y; print x y
        print 1 > "g"; print close("g"), close("g") }"""
        outcome = self.prints(source, "13\n0 -1 -1\n13\n0 -1\n", asides=asides)
        self.assertEqual(outcome.readers, (-1, 0, ()))

    def test_main_files(self):
        self.prints("{ print FILENAME, FNR, NR, $0 }", "f1 1 1 a\nf1 2 2 b\nf3 1 3 c\n", "a\nb", "", "c\n")
        outcome = self.prints("END { print FILENAME, FNR, NR, $0 }", "f3 0 1 a\n", "a\n", "", "")
        self.assertEqual(outcome.readers, (2, 0, ()))
        outcome = Outcome("BEGIN { x = getline; y = getline }", "a", "b\n\n")
        self.assertEqual((outcome.readers, outcome.scalars["x"], outcome.record),
                ((1, 2, ()), number(1), ("b", ("b",))))
        outcome = Outcome("BEGIN { x = getline }")
        self.assertEqual((outcome.scalars["x"], outcome.readers, outcome.events), (number(0), (-1, 0, ()), []))
        self.prints("{ FNR = \"5x\"; NR = 7 / 2; getline; print FNR, NR }", "6 4.5\n", "a\nb\n")
        self.fails("{ NR = \"9\" 10 ^ 60; getline }", "great", 3, "a\nb\n")
        outcome = self.fails("{ NR = 10 ^ 60; getline x }", "great", 3, "a\nb\n")
        self.assertEqual((outcome.readers, outcome.scalars["FNR"], outcome.scalars["x"]),
                ((0, 2, ()), number(1), ("unset",)))
        # A file that is gone on to begins with FNR 0 whatever FNR is.
        self.prints("{ FNR = 10 ^ 60; getline x; print FNR, x }", "1 b\n", "a\n", "b\n")

    def test_separators(self):
        self.prints("BEGIN { RS = \",\" } { print }", "a\nb\n\n\n", "a,b,\n")
        self.prints("BEGIN { RS = \"\"; FS = \":\" } { print NF, $2 }", "2 b\n3 d\n", "\na:b\n\n\n\nc\nd:e\n")
        self.prints("BEGIN { RS = \"x+\" } { print NF $0 }", "1a\n0 \n1b\n", "axx xxxb")
        self.prints("BEGIN { FS = \"\" } { print $2 NF }", "b3\n", "abc\n")
        self.prints("BEGIN { FS = \"b+\" } { print $2 NF }", "c2\n", "abbc\n")
        self.prints("{ FS = \",\"; print $1 }", "a,b\nc\n", "a,b\nc,d\n")
        self.prints("NR == 1 { RS = \",\" } { print }", "a\nb\nc\n\n\n", "a\nb,c,\n")
        for source, texts in [("BEGIN { RS = \"((\"; getline }", ()), ("BEGIN { RS = \"((\"; getline x }", ("a\n",)),
                ("BEGIN { FS = \"((\"; getline }", ("a\n",)),
                              ("BEGIN { FS = \"((\"; $0 = \"a\" }", ()),
                              ("BEGIN { RS = \"((\"; getline < \"g\" }", ())]:
            outcome = self.fails(source, "pattern", 3, *texts, asides=(("<", "g", "a\n", True),))
            self.assertEqual((outcome.readers, outcome.scalars["NR"], outcome.record),
                    ((-1, 0, ()), number(0), ("", ())))
        self.assertEqual(Outcome("BEGIN { FS = \"((\"; getline x }", "a\n").end, ("over", 0))
        asides = (("<", "g", "a\n", True),)
        self.assertEqual(Outcome("BEGIN { FS = \"((\"; getline x < \"g\" }", asides=asides).end, ("over", 0))
        self.assertEqual(Outcome("BEGIN { RS = \"((\"; getline < \"h\" }", "a\n").end, ("over", 0))
        self.assertEqual(Outcome("BEGIN { FS = \"((\"; getline }").end, ("over", 0))
        self.fails("BEGIN { RS = \"((\" } { 1 }", "pattern", 0)
        outcome = self.fails("{ 1 }", "long", 0, "b\n" + "a" * 4001)
        self.assertEqual((outcome.readers, outcome.scalars["NR"]), ((0, 2, ()), number(1)))

    def test_getlines(self):
        asides = (("<", "g", "x y\nz\n", True), ("|", "g", "p q\n", True), ("|", "none", "", True))
        for source, wanted in [("getline", "1|b c|2|2|2"), ("getline v", "1|a|1|2|2"),
                ("getline < \"g\"", "1|x y|2|1|1"), ("getline v < \"g\"", "1|a|1|1|1"),
                ("\"g\" | getline", "1|p q|2|2|1"), ("\"g\" | getline v", "1|a|1|2|1"),
                ("getline < \"h\"", "-1|a|1|1|1"), ("\"h\" | getline v", "-1|a|1|1|1"),
                ("\"none\" | getline", "0|a|1|1|1"), ("getline v[1] < \"g\"", None),
                ("getline $2 < \"g\"", "1|a x y|2|1|1"), ("getline $0", "1|b c|2|2|2"),
                ("getline NF < \"n\"", "-1|a|1|1|1"), ("getline NR", "1|a|1|b c|2")]:
            if wanted is not None:
                source = "NR == 1 { r = (%s); print r \"|\" $0 \"|\" NF \"|\" NR \"|\" FNR; exit }" % source
                self.assertEqual(Outcome(source, "a\nb c\n", asides=asides).out, wanted + "\n", source)
        outcome = Outcome("BEGIN { getline v[1] < \"g\"; getline v[2] < \"g\"; r = getline v[3] < \"g\"; getline w; "
                          "x = \"set\"; s = getline x < \"h\" }", asides=asides)
        self.assertEqual(outcome.arrays["v"], {"1": ("seen", "x y"), "2": ("seen", "z")})
        self.assertEqual((outcome.scalars["r"], outcome.scalars["w"], outcome.scalars["x"], outcome.scalars["s"]),
                         (number(0), ("unset",), ("text", "set"), number(-1)))
        self.assertEqual(outcome.readers, (-1, 0, (("<", "g", 6),)))
        self.assertEqual(outcome.events, [("read", "<", "g", "x y"), ("read", "<", "g", "z")])
        outcome = Outcome("BEGIN { \"none\" | getline }", asides=asides)
        self.assertEqual(outcome.readers, (-1, 0, (("|", "none", 0),)))
        self.prints("{ while ((getline v < \"g\") > 0) s = s v \";\"; print s }", "x y;z;\n", "a\n", asides=asides)

    def test_waiting(self):
        wait = ((("f", "a\nb", False), ("g", "c\n", True)), (("<", "p", "x", False), ("|", "q", "", False)))
        outcome = Outcome("{ print }", world=wait)
        self.assertEqual((outcome.end, outcome.out, outcome.ticks, outcome.readers, outcome.phase),
                (("more", 0), "a\n", 4, (0, 2, ()), "main"))
        for source, place in [("BEGIN { x = getline y < \"p\" }", 2), ("BEGIN { \"q\" | getline }", 2),
                ("BEGIN { f() } function f() { while (getline < \"p\") 1 }", 3),
                              ("BEGIN { getline; getline }", 3)]:
            outcome = Outcome(source, world=wait)
            self.assertEqual((outcome.end, outcome.place, outcome.readers[2]), (("more", place), place, ()), source)
        # Nothing is gone on to if the file behind has to be waited for.
        outcome = Outcome("{ x }", world=((("f", "a\n", True), ("g", "", True), ("h", "b", False)), ()))
        self.assertEqual((outcome.end, outcome.readers, outcome.scalars["FILENAME"], outcome.scalars["FNR"]),
                (("more", 0), (0, 2, ()), ("text", "f"), number(1)))


class TestRules(WalkerCase):

    def test_sequence(self):
        source = """END { print "e1" } $1 == 2 { print "two" } BEGIN { print "b1" } { print "all" } BEGIN { print "b2" }
        END { print "e2" } $1 == 1"""
        outcome = self.prints(source, "b1\nb2\nall\n1\ntwo\nall\ne1\ne2\n", "1\n2\n")
        self.assertEqual(outcome.places, [5, 6, 9, 10, 0, 3, 7, 8, 13, 0, 3, 4, 7, 8, 13, 0, 1, 2, 11, 12])

    def test_last_record_in_end(self):
        self.prints("END { print $0, NR, NF }", "b c 2 2\n", "a\nb c\n")

    def test_patterns(self):
        for source, wanted in [("/b/", "ab\nb\n"), ("$0 == \"b\"", "b\n"), ("NR - 1", "b\nc\n"), ("!/b/", "c\n"),
                ("x", ""), ("\"0\"", "ab\nb\nc\n"), ("$0 ~ \"^a\"", "ab\n"),
                               ("x++ { print x }", "2\n3\n"), ("/c/ { print; print }", "c\nc\n"), ("/b/ { }", "")]:
            self.prints(source, wanted, "ab\nb\nc\n")

    def test_ranges(self):
        for source, text, wanted in [("/a/, /b/", "x\na\nx\nb\nx\na\n", "a\nx\nb\na\n"),
                ("/a/, /a/", "a\nx\na\n", "a\na\n"), ("/a/, /ab/", "ab\nx\na\nx\n", "ab\na\nx\n"),
                                     ("NR == 1, NR == 2 { print NR }", "a\na\na\n", "1\n2\n"), ("0, 1", "a\n", ""),
                                     ("1, 0", "a\nb\n", "a\nb\n"), ("1, 1 { }", "a\n", "")]:
            self.prints(source, wanted, text)
        source = "/a/, /b/ { 1 } /x/, /a/ { 2 }"
        rows = [Outcome(source, "x\na\nb\n", count=count).ranges for count in range(12)]
        # The places are 0 1 3 4, 0 1 2 3 4, 0 1 2 3.
        self.assertEqual(tick_places(program_of(source), world_of("x\na\nb\n"), 99),
                [0, 1, 3, 4, 0, 1, 2, 3, 4, 0, 1, 2, 3, 0])
        no, first, second, both = (False, False), (True, False), (False, True), (True, True)
        self.assertEqual(rows, [no, no, no, second, second, second, both, both, first, first, first, no])
        outcome = Outcome("1, x++ { print x }", "a\nb\nc\n")
        self.assertEqual(outcome.out, "1\n2\n3\n")
        self.assertEqual(outcome.ranges, (False,))
        self.assertEqual(Outcome("1, 0", "a\n").ranges, (True,))
        # Only the second pattern is looked at while the bit is set.
        outcome = Outcome("t(1), t(0)" + TOLD, "a\nb\n")
        self.assertEqual(outcome.scalars["order"], ("text", "1;0;0;"))

    def test_next(self):
        self.prints("{ for (k in a) next; if (NR == 1) next; print } { a[1]; print \"second\" }", "b\nsecond\n",
                "a\nb\nc\n")
        outcome = self.prints("{ next; print 1 } { print 2 } END { print NR }", "2\n", "a\nb\n")
        self.assertEqual(outcome.places, [0, 1, 2, 0, 1, 2, 0, 6, 7])

    def test_exit(self):
        for source, code, out in [("BEGIN { exit 3; print 1 } { print 2 } END { print 3 }", 3, "3\n"),
                ("{ exit; print 2 } END { print 3 }", 0, "3\n"), ("{ exit 7 / 2 } END { exit }", 3, ""),
                                  ("{ exit 1 } END { exit 2; print 3 } END { print 4 }", 2, ""),
                                  ("END { print 1; exit \"5x\"; print 2 }", 5, "1\n"), ("BEGIN { exit -1.5 }", -1, ""),
                                  ("BEGIN { for (k in a) exit 1; a[1]; for (k in a) exit 2 }", 2, ""),
                                  ("{ exit NR } { print }", 1, "")]:
            outcome = Outcome(source, "a\nb\n")
            self.assertEqual((outcome.end, outcome.code, outcome.out, outcome.phase),
                    (("over", code), code, out, "over"), source)
        self.fails("{ exit \"1\" 10 ^ 60 } END { print 1 }", "great", 2, "a\n")

    def test_errors_end_the_run(self):
        outcome = self.fails("{ x = 1; y = 1 / 0; z = 1 } END { print 1 }", "divide", 3, "a\n")
        self.assertEqual((outcome.scalars["x"], outcome.scalars["y"], outcome.scalars["z"], outcome.phase,
                outcome.out), (number(1), ("unset",), ("unset",), "main", ""))
        outcome = self.fails("{ print (x = 5) (y = 1) / (z - z) }", "divide", 2, "a\n")
        self.assertEqual((outcome.scalars["x"], outcome.scalars["y"]), (number(5), number(1)))
        self.fails("1 / x", "divide", 1, "a\n")
        self.fails("BEGIN { f(3) } function f(n) { if (n) f(n - 1); else n ^ 200 }", "power", 5)
        for source, word, place in [("BEGIN { 1 / 0 }", "divide", 2), ("BEGIN { 1 @ 0 }", "divide", 2),
                ("BEGIN { 0 ^ -1 }", "divide", 2), ("BEGIN { 2 ^ 0.5 }", "power", 2),
                ("BEGIN { 10 ^ 61 }", "great", 2), ("BEGIN { -(\"1\" 10 ^ 60) }", "great", 2),
                ("BEGIN { +(\"1\" 10 ^ 60) }", "great", 2), ("BEGIN { x = 10 ^ 60; x++ }", "great", 3),
                ("BEGIN { x ~ \"((\" }", "pattern", 2), ("BEGIN { x ~ /(/ }", "pattern", 2), ("/(/", "pattern", 1),
                ("BEGIN { sub(\"((\", 1, x) }", "pattern", 2),
                ("BEGIN { split(x, a, \"((\") }", "pattern", 2), ("BEGIN { match(x, \"[\") }", "pattern", 2),
                ("BEGIN { printf \"@d\" }", "format", 2),
                ("BEGIN { sprintf(\"@\") }", "format", 2), ("BEGIN { int(\"1\" 10 ^ 60) }", "great", 2),
                ("BEGIN { $(-1) }", "field", 2), ("{ NF = -1 }", "field", 2)]:
            self.fails(source, word, place, "a\n")


class TestStatements(WalkerCase):

    def ticks(self, source, *texts):
        return Outcome(source, *texts).places

    def test_ticks(self):
        for source, places in [("BEGIN { }", [1]), ("BEGIN { 1; 2 }", [1, 2, 3]),
                ("BEGIN { if (1) 2; else 3 }", [1, 2, 3]), ("BEGIN { if (0) 2; else 3; 4 }", [1, 2, 4, 5]),
                ("BEGIN { if (0) 2 }", [1, 2]), ("BEGIN { while (x++ < 2) 1 }", [1, 2, 3, 2, 3, 2]),
                ("BEGIN { while (0) 1 }", [1, 2]), ("BEGIN { do 1; while (x++ < 1) }", [1, 2, 3, 2, 3]),
                ("BEGIN { do ; while (x++ < 2) }", [1, 2, 2, 2]),
                ("BEGIN { for (x = 0; x < 2; x++) 1 }", [1, 3, 2, 5, 4, 2, 5, 4, 2]),
                ("BEGIN { for (; x < 1; ) x++ }", [1, 2, 3, 2]),
                ("BEGIN { for (;;) if (x++) break }", [1, 2, 3, 2, 3, 4]),
                ("BEGIN { for (;; x++) if (x) break }", [1, 2, 4, 3, 2, 4, 5]),
                ("BEGIN { for (k in a) 1 }", [1, 2]), ("BEGIN { a[1]; a[2]; for (k in a) 1 }",
                [1, 2, 3, 4, 5, 4, 5, 4]), ("BEGIN { print; printf \"\"; delete a; delete a[1] }", [1, 2, 3, 4, 5]),
                ("BEGIN { while (x++ < 3) { if (x == 1) continue; if (x == 2) break; 1 } }",
                [1, 2, 3, 4, 2, 3, 5, 6]), ("BEGIN { { { 1 } } ; ; 2 }", [1, 2, 3]),
                ("BEGIN { for (;;) { do { break } while (1); break } }", [1, 2, 3, 4, 5]),
                ("BEGIN { exit } END { exit }", [1, 2, 3, 4]),
                ("BEGIN { x = f(f(1)) } function f(n) { return n + 1 }", [1, 2, 3, 3]),
                ("BEGIN { a[1]; for (k in a) { for (j in a) continue; continue } }", [1, 2, 3, 4, 5, 4, 6, 3])]:
            self.assertEqual(self.ticks(source), places, source)

    def test_loops(self):
        self.prints("BEGIN { for (i = 0; i < 5; i++) { if (i == 1) continue; if (i == 4) break; print i } print i }",
                "0\n2\n3\n4\n")
        self.prints("BEGIN { do { if (++i == 2) continue; if (i == 4) break; print i } while (i < 9); print i }",
                "1\n3\n4\n")
        self.prints("BEGIN { while (i < 3) { i++; if (i == 2) continue; print i } }", "1\n3\n")
        self.prints("BEGIN { for (;;) { if (i++ > 2) break; j++ } print i, j }", "4 3\n")
        self.prints("BEGIN { do i++; while (0); print i }", "1\n")

    def test_walks(self):
        self.prints("BEGIN { a[10]; a[9]; a[\"b\"]; a[\"\"]; for (k in a) s = s \"[\" k \"]\"; print s }",
                "[][10][9][b]\n")
        # Keys that are gone are passed over, new ones do not come.
        self.prints("BEGIN { a[1]; a[2]; a[3]; a[4]; for (k in a) { print k; delete a[k + 1]; a[k 0] } }", "1\n3\n")
        self.prints("BEGIN { a[1]; a[2]; for (k in a) { print k; delete a; a[2] } }", "1\n2\n")
        self.prints("BEGIN { a[1]; a[2]; for (k in a) { print k; if (k == 1) break } print k }", "1\n1\n")
        self.prints("BEGIN { a[1]; for (k in a) { } print k, k == 1, k == \"1\" }", "1 1 1\n")
        self.prints("BEGIN { f(a); for (k in a) print k } function f(p, k) { p[2]; p[1]; for (k in p) p[k k] }",
                "1\n11\n2\n22\n")
        self.prints("{ for (NF in a) ; print NF } BEGIN { a[2]; a[1] }", "2\n", "x y z\n")
        self.prints("BEGIN { split(\"a b\", a); for (k in a) { split(\"c d e\", a); print k, a[k] } }", "1 c\n2 d\n")

    def test_print(self):
        for source, wanted in [("print", "a b\n"), ("print 1, 2", "1 2\n"), ("print(1, 2)", "1 2\n"),
                ("print 1 2", "12\n"), ("OFS = \"-\"; ORS = \"!\"; print 1, 2, x", "1-2-!"),
                ("printf \"@s-@d\", $2, 3.9", "b-3"), ("printf(\"@@\")", "@"), ("printf $1", "a"),
                ("print (OFS = \"-\"), 2", "--2\n"), ("print 1 / 3, 1.0", "0.333333 1\n")]:
            self.prints("{ %s }" % source, wanted, "a b\n")
        # The values come ahead of the name; the joints are those that hold then.
        outcome = Outcome("BEGIN { print t(1), t(2) > t(\"o\"); printf t(\"@s\"), t(3) | t(\"p\") }" + TOLD)
        self.assertEqual(outcome.scalars["order"], ("text", "1;2;o;@s;3;p;"))
        self.assertEqual(outcome.outputs, ((">", "o", "1 2\n", True), ("|", "p", "3", True)))
        outcome = Outcome("BEGIN { print 1, 2 > (OFS = \"+\") }")
        self.assertEqual(outcome.outputs, ((">", "+", "1+2\n", True),))

    def test_delete(self):
        outcome = Outcome("BEGIN { a[1]; a[2]; a[1, 2]; delete a[1]; delete a[9]; delete a[1, 2]; b[1]; delete b; "
                          "delete c }")
        self.assertEqual(outcome.arrays, {"a": {"2": ("unset",)}, "b": {}, "c": {}})
        outcome = Outcome("BEGIN { delete a[t(1), t(2)] }" + TOLD)
        self.assertEqual(outcome.scalars["order"], ("text", "1;2;"))

    def test_return(self):
        self.prints("BEGIN { print f(1), f(0) } function f(n) { while (1) { for (;;) if (n) return 1; "
                    "else return 2 } }", "1 2\n")
        self.prints("BEGIN { a[1]; print f(a) } function f(p, k) { for (k in p) return k \"x\" }", "1x\n")


class TestExpressions(WalkerCase):

    def test_values(self):
        for source, wanted in [("1.50", "1.5"), ("\"x\\ty\"", "x\ty"), ("/a/", "1"), ("/z/", "0"), ("x", ""),
                ("NR", "1"), ("$2", "b"), ("$NF", "3"), ("$9", ""), ("$0", "a b 3"),
                ("x = 5", "5"), ("x += 5", "5"), ("x -= 5", "-5"), ("$3 *= 2", "6"), ("$3 /= 2", "1.5"),
                ("$3 @= 2", "1"), ("$3 ^= 2", "9"), ("a[1] += 2", "2"), ("x++", "0"), ("++x", "1"), ("x--", "0"),
                ("--x", "-1"), ("$3++", "3"), ("++$3", "4"), ("a[1]++ a[1]", "01"), ("$1++ $1", "01"),
                ("1 ? 2 : 3", "2"), ("0 ? 2 : 3", "3"), ("1 || x++", "1"), ("0 || \"\"", "0"), ("0 || \"0\"", "1"),
                ("1 && 2", "1"), ("1 && 0", "0"), ("0 && x++", "0"), ("1 in a", "0"), ("$1 ~ /a/", "1"),
                ("$1 !~ /a/", "0"), ("\"b\" ~ $2", "1"), ("$0 ~ \"a.b\"", "1"), ("$3 < 10", "1"), ("$3 < \"10\"", "0"),
                ("$1 < 10", "0"), ("2 < 10", "1"), ("\"2\" < 10", "0"), ("2 == 2.0", "1"), ("$3 == 3", "1"),
                ("x == 0", "1"), ("x == \"\"", "1"), ("1 != 1", "0"), ("1 >= 1", "1"), ("1 > 1", "0"), ("1 <= 0", "0"),
                ("1 2", "12"), ("1 + 2", "3"), ("7 - 9", "-2"), ("3 * 4", "12"), ("1 / 4", "0.25"), ("-7 @ 3", "-1"),
                ("2 ^ 10", "1024"), ("2 ^ -1", "0.5"), ("!1", "0"), ("!x", "1"), ("!\"a\"", "0"), ("-\"3x\"", "-3"),
                ("+\"3x\"", "3"), ("- -$3", "3"), ("length", "5"), ("length()", "5"), ("length($1)", "1"),
                ("length(x)", "0"), ("index($0, \"b\")", "3"), ("substr($0, 3)", "b 3"), ("substr($0, 2, 3)", " b "),
                ("tolower(\"AbC\")", "abc"), ("toupper(\"AbC\")", "ABC"), ("int(-3.7)", "-3"),
                ("sprintf(\"@d@s\", 3.9, \"x\")", "3x"), ("match($0, /b/) RSTART RLENGTH", "331"),
                ("match($0, \"z\") RSTART RLENGTH", "00-1"),
                ("split($0, a) a[1] a[3]", "3a3"), ("split(\"a,b\", a, \",\") a[2]", "2b"),
                ("split(\"abc\", a, \"\") a[3]", "3c"), ("split(\"\", a)", "0"), ("split(\"a b\", a, / /) a[2]", "2b"),
                ("split(\" a b\", a, / /)", "3"), ("split(\" a b\", a, \" \")", "2"), ("split(\"abc\", a, //)", "1"),
                ("split(\"a.b\", a, /./)", "4"), ("split(\"a.b\", a, \".\")", "2"),
                ("split(\"a\\nb\", a, \",\")", "1"), ("sub(/b/, \"x\") $0", "1a x 3"),
                ("gsub(/[a-z]/, \"<&>\") $0", "2<a> <b> 3"), ("sub(/z/, \"x\") $0", "0a b 3"),
                ("gsub(/a/, \"x\", $1) $0", "1x b 3"),
                ("gsub(//, \"-\", $1) $1", "2-a-"), ("sub(\"a\", \"\\\\&\", $1) $1", "1&"), ("close(\"q\")", "-1"),
                ("getline", "0"), ("getline x", "0"), ("length(a)", "0"), ("x = y = 3", "3"), ("(x = 3) x", "33"),
                ("$(1 + 1)", "b"), ("$$3", "3"), ("-x", "0"), ("1 - 1 \" \" -1", "0-1"), ("10 @ 4 * 2", "4"),
                ("2 ^ 3 ^ 2", "512"), ("-2 ^ 2", "-4"), ("!x + 1", "2"), ("1 < 2 ? \"y\" : \"n\"", "y")]:
            self.gives(source, wanted)

    def test_kinds_of_what_is_given(self):
        source = """{ a = $1; b = $1 + 0; c = $1 ""; d = length; e = u; f = $9; split($0, g); h = g[1]
        i = (j = $1); getline k; for (l in g) break; m = toupper($1); n = "1"; sub(/1/, 2, n); p = -$1; q = +$1
        r = !$1; s = substr($1, 1); t = int($1); $2 = 5; v = $2; gsub(/x/, "y", w) }"""
        outcome = Outcome(source, "1\n2\n")
        kinds = {name: outcome.scalars[name] for name in "abcdefhijklmnpqrstvw"}
        self.assertEqual(kinds, {"a": ("seen", "1"), "b": number(1), "c": ("text", "1"), "d": number(1),
                "e": ("unset",), "f": ("unset",), "h": ("seen", "1"), "i": ("seen", "1"),
                                 "j": ("seen", "1"), "k": ("seen", "2"), "l": ("text", "1"), "m": ("text", "1"),
                                 "n": ("text", "2"), "p": number(-1), "q": number(1), "r": number(0),
                                 "s": ("text", "1"),
                                 "t": number(1), "v": ("seen", "5"), "w": ("unset",)})

    def test_sequence(self):
        for source, order in [("a[t(1), t(2)]", "1;2;"), ("$t(1)", "1;"), ("a[t(1)] = t(2)", "2;1;"),
                ("$t(1) = t(2)", "2;1;"), ("a[t(1)] += t(2)", "2;1;"), ("$t(1) -= t(2)", "2;1;"), ("a[t(1)]++", "1;"),
                ("--$t(1)", "1;"), ("t(1) ? t(2) : t(3)", "1;2;"), ("t(0) ? t(2) : t(3)", "0;3;"),
                ("t(1) || t(2)", "1;"), ("t(0) || t(2)", "0;2;"), ("t(1) && t(2)", "1;2;"), ("t(0) && t(2)", "0;"),
                ("(t(1), t(2)) in a", "1;2;"), ("t(1) ~ t(2)", "1;2;"), ("t(1) !~ /x/", "1;"),
                ("t(1) < t(2)", "1;2;"), ("t(1) t(2)", "1;2;"), ("t(1) + t(2) * t(3)", "1;2;3;"), ("!t(1)", "1;"),
                ("f(t(1), t(2), t(3))", "1;2;3;"), ("f(f(t(1)), t(2))", "1;2;"), ("index(t(1), t(2))", "1;2;"),
                ("substr(t(1), t(2), t(3))", "1;2;3;"), ("sprintf(t(\"@s\"), t(2))", "@s;2;"),
                ("match(t(1), t(2))", "1;2;"), ("sub(t(1), t(2), a[t(3)])", "1;2;3;"),
                ("gsub(/x/, t(2), $t(3))", "2;3;"), ("sub(t(1), t(2))", "1;2;"), ("split(t(1), a, t(2))", "1;2;"),
                ("getline a[t(1)] < t(\"g\")", "g;1;"), ("t(\"g\") | getline $t(1)", "g;1;"),
                ("getline a[t(1)]", "1;"), ("close(t(1))", "1;"), ("length(t(1))", "1;"), ("x = y = t(1)", "1;"),
                ("a[t(1)] = b[t(2)] = t(3)", "3;2;1;"), ("t(1) / (t(2) ? t(3) : t(4))", "1;2;3;")]:
            outcome = Outcome("{ %s }%s\nfunction f(p, q, r) { }" % (source, TOLD), "r s\n",
                    asides=(("<", "g", "l\n", True),))
            self.assertEqual((outcome.scalars["order"], outcome.end), (("text", order), ("over", 0)), source)

    def test_each_part_once_and_in_order(self):
        """What is done by one part is seen by the next one."""
        for source, wanted in [("x x++ x", "01"), ("x++ + x++ * x++", "2"), ("(x = 1) (x = 2) x", "122"),
                ("a[x++] = x", ""), ("i = 2; $i = i = 1", "1"), ("$(i = 1) (i = 2) $i", "a2b"), ("x = x++ + 5", "5"),
                ("x += x = 3", "6"),
                               ("x += x++", "1"), ("a[a[1] = 2] = 3", "3"), ("NF (NF = 1) $0", "31a"),
                               ("$0 (NF = 1) $0", "a b 31a"), ("(y = x) (x = 1) y", "1")]:
            parts = source.split("; ")
            self.prints("{ %sprint (%s) }" % ("".join(part + "; " for part in parts[:-1]), parts[-1]), wanted + "\n",
                    "a b 3\n")
        outcome = Outcome("{ a[x++] = x++; b[y++] += 5; $(z++ + 1) = z }", "a\n")
        self.assertEqual((outcome.arrays["a"], outcome.arrays["b"], outcome.scalars["x"], outcome.scalars["y"],
                outcome.record[0]), ({"1": number(0)}, {"0": number(5)}, number(2), number(1), ""))

    def test_sub_sets_only_what_it_changes(self):
        outcome = Outcome("{ sub(/z/, 1, x); sub(/z/, 1, a[1]); sub(/z/, 1, $5); sub(/z/, 1); gsub(/$/, \"\", y) }",
                "a  b\n")
        self.assertEqual((outcome.scalars["x"], outcome.arrays["a"], outcome.record, outcome.scalars["y"]),
                (("unset",), {"1": ("unset",)}, ("a  b", ("a", "b")), ("text", "")))
        outcome = Outcome("{ sub(/a/, \"a\", $1) }", "a  b\n")
        self.assertEqual(outcome.record, ("a b", ("a", "b")))
        outcome = Outcome("{ sub(/a/, \"c d\") }", "a  b\n")
        self.assertEqual(outcome.record, ("c d  b", ("c", "d", "b")))

    def test_errors_behind_all_parts(self):
        for source, word in [("sub(\"((\", t(1), a[t(2)])", "pattern"), ("split(t(1), a, t(\"((\"))", "pattern"),
                ("match(t(1), t(\"((\"))", "pattern"), ("t(1) ~ t(\"((\")", "pattern"),
                             ("sprintf(t(\"@\"), t(1))", "format"), ("t(1) / t(0)", "divide")]:
            outcome = Outcome("{ a[1]; %s }%s" % (source, TOLD), "r\n")
            self.assertEqual(outcome.end[:2], ("error", word))
            self.assertEqual(outcome.scalars["order"][1].count(";"), source.count("t(") - source.count("split("),
                    source)
        for form in [")(", "a)(b", "*", "("]:
            self.fails("{ split(\"x\", a, /%s/) }" % form, "pattern", 2, "r\n")
        outcome = Outcome("{ a[1]; split(\"x\", a, \"((\") }", "r\n")
        self.assertEqual(outcome.arrays["a"], {"1": ("unset",)})
        outcome = Outcome("{ x = 7; match(\"x\", \"((\") }", "r\n")
        self.assertEqual((outcome.scalars["RSTART"], outcome.scalars["RLENGTH"]), (number(0), number(-1)))
        outcome = Outcome("{ print 1 > \"o\" (1 / 0) }", "r\n")
        self.assertEqual(outcome.outputs, ())

    def test_deep_trees(self):
        """Expressions of sets in sets, down to the depth that is let."""
        tree = number(5)
        for at in range(60):
            tree = ("set", ("element", "a", (number(at),)), tree)
        ticks, end, told, _ = walk(((("always", (("expr", tree),)),), ()), world_of("r\n"), 9)
        self.assertEqual((ticks, end, len(told[1][3][0][1])), (4, ("over", 0), 60))
        source = "1" + " + (1" * 9 + ")" * 9
        self.gives(source, "10")
        nested = "print x"
        for _ in range(9):
            nested = "if (1) { %s }" % nested
        self.prints("BEGIN { %s }" % nested, "\n")


if __name__ == "__main__":
    unittest.main()
