"""The whole program: from a source to what its run tells, by each of the ways there are."""

import unittest

from makingruns import Runs
from patterndeeds.bench import Bench, replay
from patterndeeds.checker import code_fault
from patterndeeds.codes import code_of
from patterndeeds.console import Console
from patterndeeds.folding import folded, swept, trimmed
from patterndeeds.heldtexts import held_of, held_text
from patterndeeds.knowing import sharpened
from patterndeeds.likeness import code_parting, go_alike, least_code
from patterndeeds.machine import begun, end_of, go, outcome, told
from patterndeeds.parser import program_of
from patterndeeds.printer import program_text
from patterndeeds.shortening import shortened
from patterndeeds.walker import tick_places, walk
from patterndeeds.worlds import cut_world, has_more, with_aside, with_main
from helper import MANY, Case, random_of

SOURCES = [
    "{ n[$1] = n[$1] + $2 } END { for (k in n) print k, n[k] }",
    "$1 > 1 { s += $1 } END { print s; exit s }",
    "BEGIN { FS = \",\"; OFS = \"-\" } NR == 2, /b/ { $1 = $1; print; next } { printf \"@3d|@s\\n\", NR, $0 > \"o\" }",
    "function f(a, n) { if (n > 2) return n; a[n] = f(a, n + 1) n; return length(a) }\n"
    "{ x = f(b, $1); for (k in b) print k, b[k] }",
    "BEGIN { while ((getline line < \"f\") > 0) { split(line, a, /b+/); print a[1], a[2] } "
    "close(\"f\"); getline z < \"f\"; print z }",
    "{ gsub(/a/, \"<&>\"); if (match($0, /b+/)) print RSTART, RLENGTH, substr($0, RSTART); else print toupper($0) }",
    "BEGIN { RS = \"\" } { print NR, NF, $NF; \"p\" | getline y; print y | \"q\" } END { print NR; x = 1 / 0 }",
    "function g(x) { return g(x + 1) } { do { i++; if (i @ 2) continue; if (i > 7) break } "
    "while (1); print i; if (i > 8) g(1) }",
    "{ delete c; c[1, $1]++; if ((1, 2) in c) print \"in\"; for (i = 0; i < 3; i++) x = x i; "
    "print x, -1 ^ 2, !x, 1 - 1 \" \" -1 }",
]


class TestWhole(Case):

    def check(self, program, world, most=40):
        """All ways to run a program tell the same, whole and by pieces, told as one and by pieces."""
        code = code_of(program)
        self.assertIsNone(code_fault(code))
        codes = [code, folded(code), trimmed(code), swept(code), least_code(code), shortened(code), sharpened(code),
                 shortened(sharpened(folded(code)))]
        for one in codes:
            self.assertIsNone(code_fault(one))
        self.assertTrue(go_alike(code, codes[4]))
        self.assertTrue(go_alike(code, codes[5]) or code_parting(code, codes[5]) is not None)
        wanted = walk(program, world, most)
        for one in codes:
            self.assertEqual(outcome(one, world, most), wanted)
        places = tick_places(program, world, most)
        self.assertEqual(len(places), wanted[0])
        for ticks in range(0, min(wanted[0], 12) + 1, 3):
            short = walk(program, world, ticks)
            self.assertEqual(short[0], ticks)
            self.assertEqual(wanted[3][:len(short[3])], short[3])
            if ticks < wanted[0]:
                self.assertEqual(short[1], ("tick", places[ticks]))
            for one in codes:
                self.assertEqual(outcome(one, world, ticks), short)
        self.check_pieces(program, codes, world, wanted, most)
        self.check_bench(program, world, wanted, most)

    def check_pieces(self, program, codes, world, wanted, most):
        """The inputs are told piece by piece; in between the run is a text."""
        random = random_of("pieces", program)
        for code in [codes[0], codes[5]]:
            now = cut_world(world, [random.randrange(len(row[1]) + 1) for row in world[0]])
            held, ticks, events = begun(code), 0, []
            for _ in range(400):
                done, end, held, more = go(code, now, held_of(code, held_text(code, held)), min(3, most - ticks))
                ticks, events = ticks + done, events + more
                self.assertEqual(end_of(code, now, held), end if end[0] != "tick" or ticks <= most else None)
                self.assertEqual((ticks, end, told(code, held), events), walk(program, now, ticks))
                if end[0] in ("over", "error") or ticks == most or now == world and end[0] == "more":
                    break
                now = self.with_more(now, world, random)
            self.assertTrue(has_more(world, now))
            if end[0] in ("over", "error") or now == world:
                self.assertEqual((ticks, end, told(code, held), events), wanted)

    def with_more(self, now, world, random):
        """The world, of which a sign or two more are told of one main file."""
        for at, (row, whole) in enumerate(zip(now[0], world[0])):
            if row != whole:
                new = whole[1][len(row[1]):len(row[1]) + random.randrange(3)]
                done = len(row[1] + new) == len(whole[1])
                return with_main(now, at, new, done and whole[2])
        return now

    def check_bench(self, program, world, wanted, most):
        bench = Bench(program, world)
        for count in [3, 1, 5]:
            bench.go(count)
        if bench.ticks > 4:
            bench.back(4)
        bench.go(most)
        bench.back(bench.ticks - wanted[0]) if bench.ticks > wanted[0] else None
        self.assertEqual((bench.ticks, bench.end(), bench.told(), bench.events()), wanted)
        self.assertTrue(replay(program, world, bench.deeds) == bench)

    def test_sources(self):
        for source in SOURCES:
            program = program_of(source)
            self.assertEqual(program_of(program_text(program)), program)
            for mains in [(("m", "1 2\na b\n3 4", True),), (("m", "2\n1,b\n", True), ("n", "aab\nx", False)), ()]:
                for asides in [(("<", "f", "abc\nx\nb", True), ("|", "p", "y", True)), (("<", "f", "abb", False),), ()]:
                    self.check(program, (mains, asides))

    def test_random_programs(self):
        random = random_of("whole")
        maker = Runs(random)
        for _ in range(20 * MANY):
            self.check(maker.program(random.choice([3, 4, 5])), maker.world(), 30)

    def test_console(self):
        """What a console tells of a source is what the walker tells."""
        for source in SOURCES:
            console = Console()
            for line in ["program " + source, "input m 1 2\na b\n3 4\n", "aside < f abc\nx\n", "close < f", "go 300"]:
                answer = console.execute(line)
            world = ((("m", "1 2\na b\n3 4\n", True),), (("<", "f", "abc\nx\n", True),))
            ticks, end, state, _ = walk(program_of(source), world, 300)
            self.assertEqual((answer, console.execute("where")), (str(ticks), " ".join(str(one) for one in end)))
            self.assertEqual(console.execute("record"), state[1][5][0])
            for kind, name, text, _ in state[1][7]:
                self.assertEqual(console.execute("output " + (kind + " " + name if kind else "-")), text)

    def test_nothing_hangs_on_earlier_calls(self):
        random = random_of("earlier")
        maker = Runs(random)
        cases = [(maker.program(4), maker.world()) for _ in range(10)]
        first = [(walk(program, world, 20), shortened(code_of(program))) for program, world in cases]
        again = [(walk(program, world, 20), shortened(code_of(program))) for program, world in cases[::-1]]
        self.assertEqual(first, again[::-1])

    def test_new_asides_are_not_more(self):
        """A getline may have found none."""
        program = program_of("BEGIN { x = getline y < \"f\"; print x }")
        world = ((), ())
        self.assertEqual(walk(program, world, 9)[3], [("write", "", "", "-1\n")])
        self.assertEqual(walk(program, with_aside(world, "<", "f", "a", True), 9)[3][1:], [("write", "", "", "1\n")])


if __name__ == "__main__":
    unittest.main()
