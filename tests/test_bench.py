"""[65]: the bench, its deeds, its blocks, and what it tells."""

import unittest

from makingruns import Runs
from patterndeeds import errors
from patterndeeds.bench import Bench, TiedBench, replay
from patterndeeds.codes import code_of
from patterndeeds.errors import (
    InvalidCount, InvalidDeeds, InvalidIndex, InvalidPlace, InvalidProgram, InvalidWorld, KindClash, NoBlock,
            NothingToUndo,
    Refused, UnknownName, UnsoundProgram, Whole, Written,
)
from patterndeeds.kinds import arrays, scalars
from patterndeeds.machine import begun, go
from patterndeeds.parser import program_of
from patterndeeds.trees import places
from patterndeeds.walker import walk
from slowbench import SlowBench, Wrong
from helper import MANY, VALUES, Case, Number, Row, Rows, Text, random_of

PROGRAM = program_of("{ s += $1; n[$2]++; if (s > 3) print s; getline z < \"f\" } END { print s > \"o\" }")
WORLD = ((("m", "1 a\n2 b\n3 a\n", False),), (("<", "f", "x\ny", False),))
COUNTS = [0, -1, True, False, None, "1", 1.0, (), Number(1), -10 ** 80]


def told_by(bench):
    """All that a bench tells."""
    return (bench.ticks, bench.world, bench.marks, bench.deeds, bench.depth, len(bench), list(bench), bench.end(),
            bench.told(),
            bench.events(), bench.held(), bench.place())


class TestDeeds(Case):

    def unchanged(self, bench, error, action, *values):
        """Checks that a call raises an error and changes nothing; what was raised."""
        before = told_by(bench)
        found = self.raises(error, action, *values)
        self.assertEqual(told_by(bench), before)
        return found

    def test_beginning(self):
        bench = Bench(PROGRAM, WORLD)
        self.assertEqual((bench.program, bench.world, bench.ticks, bench.marks, bench.deeds, bench.depth, len(bench)),
                (PROGRAM, WORLD, 0, [], [], 0, 0))
        code = code_of(PROGRAM)
        self.assertEqual((bench.end(), bench.place(), bench.held()), (("tick", 0), 0, go(code, WORLD, begun(code),
                0)[2]))
        self.assertEqual((0, bench.end(), bench.told(), bench.events()), walk(PROGRAM, WORLD, 0))

    def test_going(self):
        bench = Bench(program=PROGRAM, world=WORLD)
        self.assertEqual([bench.go(3), bench.go(count=4), bench.back(2), bench.go(100), bench.go(1),
                bench.back(count=1)],
                [3, 4, 2, 7, 0, 1])
        self.assertEqual(bench.deeds, [("go", 3), ("go", 4), ("back", 2), ("go", 100), ("go", 1), ("back", 1)])
        self.assertEqual((bench.ticks, bench.end()), walk(PROGRAM, WORLD, 11)[:2])
        for action in [bench.go, bench.back, bench.run]:
            for count in COUNTS:
                self.unchanged(bench, InvalidCount, action, count)
        self.unchanged(bench, Refused, bench.back, 12)
        self.assertEqual(bench.back(11), 11)
        self.unchanged(bench, Refused, bench.back, 1)

    def test_running(self):
        bench = Bench(PROGRAM, WORLD)
        for place in [0, 4]:
            self.assertIsNone(bench.mark(place))
        self.assertEqual([bench.run(99), bench.place(), bench.end()], [4, 3, ("tick", 4)])
        self.assertEqual([bench.run(99), bench.end()], [2, ("tick", 0)])
        self.assertEqual([bench.run(count=1), bench.run(2), bench.run(99), bench.end()], [1, 2, 1, ("tick", 4)])
        self.assertEqual([bench.run(99), bench.end(), bench.run(5)], [2, ("more", 6), 0])

    def test_runs_stop(self):
        program = program_of("BEGIN { x; y; x; z; y }")
        bench = Bench(program, ((), ()))
        bench.mark(place=2)
        bench.mark(5)
        self.assertEqual([bench.run(9), bench.end(), bench.run(9), bench.end(), bench.run(9), bench.end(),
                bench.run(9)],
                [1, ("tick", 2), 3, ("tick", 5), 2, ("over", 0), 0])
        bench.back(6)
        self.assertEqual([bench.run(1), bench.run(2), bench.ticks], [1, 2, 3])
        bench.unmark(place=5)
        self.assertEqual([bench.run(9), bench.marks], [3, [2]])
        self.assertEqual(bench.deeds[:3], [("mark", 2), ("mark", 5), ("run", 9)])

    def test_marks(self):
        bench = Bench(PROGRAM, WORLD)
        many = len(places(PROGRAM))
        for place in [many - 1, 0, 3]:
            bench.mark(place)
        self.assertEqual(bench.marks, [0, 3, many - 1])
        for place in [many, -1, 3, 10 ** 80]:
            self.unchanged(bench, InvalidPlace, bench.mark, place)
        for place in [1, many, -1]:
            self.unchanged(bench, InvalidPlace, bench.unmark, place)
        bench.unmark(3)
        self.assertEqual(bench.marks, [0, many - 1])
        self.unchanged(bench, InvalidPlace, bench.unmark, 3)
        bench.mark(3)

    def test_more(self):
        bench = Bench(PROGRAM, WORLD)
        bench.go(99)
        self.assertEqual(bench.end(), ("more", 6))
        ticks = bench.ticks
        self.assertIsNone(bench.more_aside("<", "f", "z\n", False))
        self.assertEqual((bench.world[1], bench.ticks), ((("<", "f", "x\nyz\n", False),), ticks))
        self.assertIsNone(bench.more_main(index=0, text="4 c", whole=False))
        self.assertIsNone(bench.more_main(0, "", True))
        self.unchanged(bench, Whole, bench.more_main, 0, "", False)
        for index in [1, -1, 10 ** 80]:
            self.unchanged(bench, InvalidIndex, bench.more_main, index, "", True)
        for kind, name in [("|", "f"), ("<", "g"), ("<", "")]:
            self.unchanged(bench, UnknownName, bench.more_aside, kind, name, "", True)
        bench.more_aside(kind="<", name="f", text="", whole=False)
        bench.more_aside("<", "f", "", True)
        self.unchanged(bench, Whole, bench.more_aside, "<", "f", "a", False)
        self.assertEqual(bench.deeds, [("go", 99), ("aside", "<", "f", "z\n", False), ("main", 0, "4 c", False),
                ("main", 0, "", True), ("aside", "<", "f", "", False), ("aside", "<", "f", "", True)])
        world = ((("m", "1 a\n2 b\n3 a\n4 c", True),), (("<", "f", "x\nyz\n", True),))
        self.assertEqual(bench.world, world)
        self.assertEqual((bench.end(), bench.told(), bench.events()), walk(PROGRAM, world, ticks)[1:])
        while len(bench):
            bench.undo()
        self.assertEqual((bench.world, bench.ticks), (WORLD, 0))

    def test_undo(self):
        bench = Bench(PROGRAM, WORLD)
        states = [told_by(bench)[:5]]
        for method, values in [("go", (5,)), ("mark", (2,)), ("back", (2,)), ("more_main", (0, "x", True)), ("run",
                (9,)),
                ("unmark", (2,)), ("go", (50,)), ("more_aside", ("<", "f", "\n", False))]:
            getattr(bench, method)(*values)
            states.append(told_by(bench)[:5])
        while len(states) > 1:
            deed = states.pop()[3][-1]
            self.assertEqual(bench.undo(), deed)
            self.assertEqual(told_by(bench)[:5], states[-1])
        self.unchanged(bench, NothingToUndo, bench.undo)

    def test_blocks(self):
        bench = Bench(PROGRAM, WORLD)
        for action in [bench.keep, bench.drop]:
            self.unchanged(bench, NoBlock, action)
        bench.go(2)
        self.assertIsNone(bench.begin())
        self.unchanged(bench, NothingToUndo, bench.undo)
        bench.mark(1)
        bench.go(3)
        bench.begin()
        self.assertEqual(bench.depth, 2)
        self.unchanged(bench, NothingToUndo, bench.undo)
        bench.back(4)
        bench.unmark(1)
        self.assertEqual(bench.undo(), ("unmark", 1))
        self.assertIsNone(bench.drop())
        self.assertEqual((bench.depth, bench.ticks, bench.deeds), (1, 5, [("go", 2), ("mark", 1), ("go", 3)]))
        bench.begin()
        bench.go(1)
        self.assertIsNone(bench.keep())
        self.assertEqual((bench.depth, bench.ticks), (1, 6))
        self.assertEqual([bench.undo(), bench.undo()], [("go", 1), ("go", 3)])
        bench.keep()
        self.assertEqual([bench.undo(), bench.undo(), bench.ticks, bench.marks], [("mark", 1), ("go", 2), 0, []])
        bench.begin()
        bench.begin()
        bench.drop()
        bench.drop()
        self.unchanged(bench, NoBlock, bench.drop)

    def test_twins(self):
        for made in [Bench, TiedBench]:
            bench = made(PROGRAM, WORLD)
            bench.go(4)
            bench.more_main(0, "x", True)
            bench.begin()
            bench.mark(2)
            other = bench.twin()
            self.assertIs(type(other), made)
            self.assertEqual(told_by(other)[:4] + told_by(other)[5:], told_by(bench)[:4] + told_by(bench)[5:])
            self.assertEqual((other.depth, bench.depth), (0, 1))
            self.assertTrue(bench == other and not bench != other)
            other.go(2)
            self.assertFalse(bench == other)
            self.assertEqual((len(bench), len(other), bench.ticks, other.ticks), (3, 4, 4, 6))
            self.assertEqual([other.undo(), other.undo(), other.undo(), other.undo()], [("go", 2), ("mark", 2),
                    ("main", 0, "x", True), ("go", 4)])
            bench.drop()
            self.assertEqual(bench.marks, [])

    def test_equal(self):
        bench = Bench(PROGRAM, WORLD)
        self.assertTrue(bench == Bench(PROGRAM, WORLD))
        self.assertFalse(bench == TiedBench(PROGRAM, WORLD) or TiedBench(PROGRAM, WORLD) == bench)
        self.assertTrue(TiedBench(PROGRAM, WORLD) == TiedBench(PROGRAM, WORLD))
        self.assertFalse(bench == Bench(PROGRAM, ((), ())) or bench == Bench(((), ()), WORLD))
        for value in VALUES:
            self.assertIs(bench == value, False)
            self.assertIs(bench != value, True)
        other = Bench(PROGRAM, WORLD)
        bench.go(2)
        other.go(1)
        other.go(1)
        self.assertFalse(bench == other)
        other.undo(), other.undo(), other.go(2), other.begin()
        self.assertTrue(bench == other)
        one, two = Bench(PROGRAM, WORLD), Bench(PROGRAM, ((("m", "1 a\n2 b\n3 a\n4", False),), WORLD[1]))
        one.more_main(0, "4", False)
        self.assertEqual(one.world, two.world)
        self.assertFalse(one == two)

    def test_iterating(self):
        bench = Bench(PROGRAM, WORLD)
        bench.go(1)
        bench.go(2)
        seen = []
        for deed in bench:
            seen.append(deed)
            bench.go(1)
            bench.mark(len(seen))
        self.assertEqual(seen, [("go", 1), ("go", 2)])
        self.assertEqual(len(bench), 6)
        rows = iter(bench)
        for _ in range(6):
            bench.undo()
        self.assertEqual(len(list(rows)), 6)
        self.assertEqual(list(bench), [])

    def test_lists_are_new(self):
        bench = Bench(PROGRAM, WORLD)
        bench.mark(1)
        bench.go(5)
        for action in [lambda: bench.deeds, lambda: bench.marks, bench.events, lambda: bench.watch("s")]:
            before = list(action())
            action().append(1)
            self.assertEqual(action(), before)

    def test_what_it_tells(self):
        bench = Bench(PROGRAM, WORLD)
        self.assertEqual(bench.watch("s"), [(0, ("unset",))])
        bench.go(15)
        self.assertEqual((bench.value("s"), bench.value(name="NR"), bench.value("RLENGTH")), (("number", 3, 1),
                ("number", 2, 1),
                ("number", -1, 1)))
        self.assertEqual((bench.entry("n", "a"), bench.entry(name="n", key="b"), bench.entry("n", "c")),
                (("number", 1, 1), ("number", 1, 1), None))
        self.assertEqual((bench.output("", ""), bench.output(">", "o"), bench.output(kind=">>", name="o")), (None,
                None, None))
        bench.more_main(0, "", True)
        bench.more_aside("<", "f", "", True)
        bench.go(99)
        self.assertEqual((bench.output("", ""), bench.output(">", "o"), bench.output(">>", "o"), bench.output("|",
                "o")),
                ("6\n", "6\n", None, None))
        self.assertEqual(bench.watch("s"), [(0, ("unset",)), (3, ("number", 1, 1)), (9, ("number", 3, 1)), (15,
                ("number", 6, 1))])
        self.assertEqual(bench.watch(name="z")[-1][1], ("seen", "y"))
        for name in ["n", "none", "", "f"]:
            self.raises(UnknownName, bench.value, name)
            self.raises(UnknownName, bench.watch, name)
        for name in ["s", "NF", "none"]:
            self.raises(UnknownName, bench.entry, name, "a")

    def test_parts_from(self):
        bench = Bench(PROGRAM, WORLD)
        bench.go(15)
        other = Bench(PROGRAM, ((("m", "1 a\n2 c\n", False),), WORLD[1]))
        other.go(9)
        self.assertIsNone(bench.parts_from(other=bench))
        self.assertEqual(bench.parts_from(other), 7)
        self.assertEqual(other.parts_from(bench), 7)
        other.back(3)
        self.assertIsNone(other.parts_from(bench))
        self.assertEqual(Bench(PROGRAM, WORLD).parts_from(Bench(program_of("BEGIN { x }"), WORLD)), 0)
        one, two = Bench(program_of("BEGIN { x; y }"), ((), ())), TiedBench(program_of("BEGIN { x; x = y }"), ((), ()))
        one.go(9), two.go(9)
        self.assertIsNone(one.parts_from(two))
        two = Bench(program_of("BEGIN { x; y = 1 }"), ((), ()))
        two.go(9)
        self.assertEqual(one.parts_from(two), 3)

    def test_errors(self):
        fault, clash = program_of("{ break; x = 1; x[1] = 2 }"), program_of("{ f(x); x = 1 } function f(a) { a[1] }")
        for made in [Bench, TiedBench, lambda program, world: replay(program, world, None)]:
            for value in VALUES:
                if value != ((), ()):
                    self.raises(InvalidProgram, made, value, None)
                    self.raises(InvalidWorld, made, fault, value)
            self.raises(UnsoundProgram, made, fault, WORLD)
            self.raises(KindClash, made, clash, WORLD)


class TestTied(Case):

    def test_written(self):
        program = program_of("BEGIN { x = 1; print x; y = 2; print y > \"o\"; z = 3; w }")
        bench = TiedBench(program, ((), ()))
        bench.go(7)
        for count, tick in [(3, 5), (4, 5), (5, 5), (7, 5)]:
            self.raises_with(Written, "tick", tick, bench.back, count)
        self.assertEqual((bench.back(2), bench.ticks), (2, 5))
        self.raises_with(Written, "tick", 5, bench.back, 1)
        self.raises(Refused, bench.back, 6)
        self.raises(InvalidCount, bench.back, 0)
        bench.go(9)
        self.assertEqual(bench.undo(), ("go", 9))
        self.assertEqual(bench.undo(), ("back", 2))
        self.raises_with(Written, "tick", 5, bench.undo)
        self.assertEqual((bench.ticks, bench.deeds), (7, [("go", 7)]))

    def test_blocks(self):
        program = program_of("BEGIN { x = 1; print x; y = 2; print y > \"o\"; z = 3; w }")
        bench = TiedBench(program, ((), ()))
        bench.begin()
        bench.mark(1)
        bench.go(2)
        bench.begin()
        bench.run(3)
        bench.go(1)
        bench.mark(2)
        self.raises_with(Written, "tick", 5, bench.drop)
        self.assertEqual((bench.depth, bench.ticks, len(bench)), (2, 6, 5))
        self.assertEqual([bench.undo(), bench.undo()], [("mark", 2), ("go", 1)])
        self.raises_with(Written, "tick", 5, bench.undo)
        bench.keep()
        self.raises_with(Written, "tick", 5, bench.drop)
        bench.begin()
        bench.go(1)
        self.assertIsNone(bench.drop())
        self.assertEqual((bench.depth, bench.ticks), (1, 5))
        self.raises(NothingToUndo, TiedBench(program, ((), ())).undo)
        self.raises(NoBlock, TiedBench(program, ((), ())).drop)
        self.raises(NoBlock, TiedBench(program, ((), ())).keep)

    def test_the_world_as_it_is_now(self):
        """A tick that waits writes nothing until more is told."""
        program = program_of("BEGIN { getline x; print getline > \"o\"; y }")
        bench = TiedBench(program, ((("m", "a\nb", False),), ()))
        self.assertEqual((bench.go(9), bench.end()), (3, ("more", 3)))
        self.assertEqual(bench.back(1), 1)
        bench.go(1)
        bench.more_main(0, "\n", False)
        self.raises_with(Written, "tick", 3, bench.back, 1)
        self.assertEqual(bench.undo(), ("main", 0, "\n", False))
        self.assertEqual(bench.undo(), ("go", 1))

    def test_methods_stand_in_the_classes(self):
        for name in ["go", "run", "back", "mark", "unmark", "more_main", "more_aside", "undo", "begin", "keep", "drop",
                "twin",
                "__len__", "__iter__", "__eq__", "end", "told", "events", "held", "place", "value", "entry", "output",
                "watch",
                "parts_from", "program", "world", "ticks", "marks", "deeds", "depth"]:
            self.assertIn(name, vars(Bench))
        for name in ["back", "undo", "drop"]:
            self.assertIn(name, vars(TiedBench))
        self.assertEqual(TiedBench.__bases__, (Bench,))


class TestReplay(Case):

    def test_deeds(self):
        deeds = [("go", 4), ("mark", 3), ("back", 1), ("main", 0, "4 c", True), ("aside", "<", "f", "", False), ("run",
                99),
                 ("unmark", 3), ("go", 10 ** 80)]
        bench = replay(PROGRAM, WORLD, deeds)
        other = Bench(PROGRAM, WORLD)
        other.go(4), other.mark(3), other.back(1), other.more_main(0, "4 c", True), other.more_aside("<", "f", "",
                False)
        other.run(99), other.unmark(3), other.go(10 ** 80)
        self.assertTrue(bench == other)
        self.assertEqual(told_by(bench), told_by(other))
        self.assertTrue(replay(PROGRAM, WORLD, bench.deeds) == bench)
        self.assertTrue(replay(program=PROGRAM, world=WORLD, deeds=[]) == Bench(PROGRAM, WORLD))
        self.assertIs(type(bench), Bench)
        deeds.append(1)
        self.assertEqual(len(bench), 8)

    def test_wrong_deeds(self):
        good = [("go", 4), ("mark", 3)]
        for deed in [("go", 0), ("go", True), ("go", Number(1)), ("go", "1"), ("go",), ("go", 1, 1), ("back", 5),
                ("back", 0),
                ("back", None), ("run", 0), ("run", -1), ("run", 1.0), ("mark", 3), ("mark", True), ("mark", 99),
                ("mark", -1),
                ("mark", None), ("unmark", 1), ("unmark", Number(3)), ("unmark", "3"), ("main", 1, "", True), ("main",
                -1, "", True),
                ("main", False, "", True), ("main", 0, "\r", True), ("main", 0, None, True), ("main", 0, "", 1),
                ("main", 0, ""),
                ("main", 0, Text(""), True), ("main", 0, "", True, True), ("aside", "|", "f", "", True),
                ("aside", "<", "g", "", True), ("aside", "<", "f", "", None), ("aside", "<", "f", 1, True), ("aside",
                None, "f", "", True),
                ("aside", "<", ["f"], "", True), ("aside", "<", "f", "%", True), ("undo",), ("begin",), ("Go", 1),
                (Text("go"), 1),
                ["go", 1], Row(("go", 1)), "go", None, (), ("",), (("go", 1),)] + VALUES:
            for ahead, behind in [([], []), (good, []), (good, [("go", 1)]), (good, [None])]:
                if ahead == [] and deed in [("back", 5), ("mark", 3)]:
                    continue
                self.raises_with(InvalidDeeds, "index", len(ahead), replay, PROGRAM, WORLD, ahead + [deed] + behind)
        self.raises_with(InvalidDeeds, "index", 1, replay, PROGRAM, WORLD, [("main", 0, "", True), ("main", 0, "",
                True)])
        for value in [(), tuple(good), Rows(good), {}, "go", None, 1]:
            self.raises_with(InvalidDeeds, "index", 0, replay, PROGRAM, WORLD, value)


class TestSessions(Case):

    def both(self, bench, slow, name, *values):
        """Does the same with both benches; both raise the same, or tell the same."""
        method = {"more_main": "main", "more_aside": "aside"}.get(name, name)
        try:
            if method in ("go", "back", "run", "mark", "unmark", "main", "aside"):
                wanted = slow.do((method,) + values)
            else:
                wanted = getattr(slow, method)(*values)
        except Wrong as wrong:
            found = self.raises(getattr(errors, wrong.args[0]), getattr(bench, name), *values)
            if wrong.args[0] == "Written":
                self.assertEqual(found.tick, wrong.args[1])
            return
        result = getattr(bench, name)(*values)
        self.assertEqual(result, wanted, (name, values, slow.program, slow.deeds))

    def compare(self, bench, slow):
        ticks, world, marks = slow.state()
        self.assertEqual((bench.ticks, bench.world, bench.marks, bench.deeds, list(bench), len(bench), bench.depth),
                (ticks, world, sorted(marks), slow.deeds, slow.deeds, len(slow.deeds), len(slow.blocks)))
        outcome = slow.outcome()
        self.assertEqual((bench.ticks, bench.end(), bench.told(), bench.events()), outcome, (slow.program, slow.deeds))
        self.assertEqual(bench.place(), outcome[2][0])
        code = code_of(slow.program)
        self.assertEqual(bench.held(), go(code, world, begun(code), ticks)[2])

    def step(self, random, bench, slow, maker):
        program = slow.program
        what = random.randrange(20)
        if what < 4:
            self.both(bench, slow, random.choice(["go", "run"]), random.choice([0, 1, 2, 3, 5, 8]))
        elif what < 7:
            self.both(bench, slow, "back", random.choice([1, 1, 2, 3, 6]))
        elif what < 9:
            self.both(bench, slow, random.choice(["mark", "unmark"]), random.randrange(-1, len(places(program)) + 1))
        elif what < 11:
            self.both(bench, slow, "more_main", random.randrange(-1, 3), maker.line(5), random.random() < 0.3)
        elif what < 12:
            self.both(bench, slow, "more_aside", random.choice("<|"), random.choice(["f", "p"]), maker.line(5),
                    random.random() < 0.3)
        elif what < 15:
            self.both(bench, slow, "undo")
        elif what < 18:
            self.both(bench, slow, random.choice(["begin", "keep", "drop"]))
        elif what == 18:
            name = random.choice(scalars(program) + ("none",))
            self.both(bench, slow, "value", name)
            self.both(bench, slow, "watch", name)
        else:
            self.both(bench, slow, "entry", random.choice(arrays(program) + ("x",)), random.choice(["a", "1", ""]))
            self.both(bench, slow, "output", random.choice(["", ">", ">>", "|"]), random.choice(["", "o", "p"]))

    def test_sessions(self):
        """Sessions of many deeds against a slow record; replayed, and in twins; [D1] and [D2]."""
        random = random_of("bench")
        maker = Runs(random)
        for _ in range(80 * MANY):
            program, world = maker.program(random.choice([3, 4])), maker.world()
            made = random.choice([Bench, TiedBench])
            bench, slow = made(program, world), SlowBench(program, world, made is TiedBench)
            earlier = []
            for _ in range(25):
                self.step(random, bench, slow, maker)
                if random.random() < 0.3:
                    self.compare(bench, slow)
                if random.random() < 0.1:
                    earlier.append((bench.twin(), slow.twin()))
            self.compare(bench, slow)
            for twin, slow_twin in earlier[:3]:
                self.compare(twin, slow_twin)
                self.assertEqual(twin.parts_from(bench), slow_twin.parts_from(slow))
                self.assertEqual(bench.parts_from(twin), slow_twin.parts_from(slow))
            again = replay(program, world, bench.deeds)
            self.assertEqual(again == bench, made is Bench)
            self.assertEqual(told_by(again)[:4], told_by(bench)[:4])
            self.assertEqual(told_by(again)[7:], told_by(bench)[7:])
            straight = Bench(program, bench.world)
            if bench.ticks:
                straight.go(bench.ticks)
            self.assertEqual(told_by(straight)[7:], told_by(bench)[7:])
            names = scalars(program)
            for name in random.sample(names, 3):
                rows = bench.watch(name)
                straight.go(3)
                self.assertEqual(straight.watch(name)[:len(rows)], rows)


if __name__ == "__main__":
    unittest.main()
