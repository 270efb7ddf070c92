"""[40] to [47] against a walk over the trees, and the facts W1 to W4, N2, N4, N5, N8, N9."""

import time
import unittest

import slowwalker
from patterndeeds.beside import beside, is_quiet
from patterndeeds.calls import deepest, reached, without_unreached
from patterndeeds.kinds import is_sound, scalars, slot_kinds
from patterndeeds.parser import program_of
from patterndeeds.renaming import likeness, plain, renamed
from patterndeeds.standing import all_names
from patterndeeds.trees import places
from patterndeeds.walker import tick_places, walk
from patterndeeds.worlds import cut_world, has_more, with_aside, with_main
from helper import MANY, Case, random_of
from making import Faultless
from makingruns import Runs

SPECIALS = "FILENAME FNR FS NF NR OFS ORS RLENGTH RS RSTART SUBSEP".split()


def more_of(world, random):
    """The world with more of some of its inputs."""
    mains, asides = world
    for at, row in enumerate(mains):
        if not row[2] and random.random() < 0.7:
            world = with_main(world, at, random.choice(["", "a", "b 1\n", "\n\n", ",x\n"]), random.random() < 0.5)
    for kind, name, _, whole in asides:
        if not whole and random.random() < 0.7:
            world = with_aside(world, kind, name, random.choice(["", "a", "1\n"]), random.random() < 0.5)
    return world


def room_of(outcome):
    return outcome[2][1]


class TestRuns(Case):

    def test_against_the_slow_way(self):
        random = random_of("runs")
        maker = Runs(random)
        ends = {}
        for _ in range(400 * MANY):
            program, world = maker.program(random.choice([3, 4, 5])), maker.world()
            for count in [0, 3, random.randrange(60)]:
                outcome, ticks = slowwalker.walk(program, world, count)
                self.assertEqual(walk(program, world, count), outcome, (program, world, count))
                self.assertEqual(tick_places(program, world, count), ticks)
                word = outcome[1][1] if outcome[1][0] == "error" else outcome[1][0]
                ends[word] = ends.get(word, 0) + 1
        for word in ["tick", "over", "more", "divide", "pattern", "format", "field"]:
            self.assertGreater(ends.get(word, 0), 0, ends)

    def test_programs_of_all_kinds(self):
        """Programs that are not made for runs, as long as they are sound."""
        random = random_of("all kinds")
        maker = Faultless(random, ["x", "y", "n", "NF", "NR"])
        runs = 0
        while runs < 100 * MANY:
            program = maker.program(4)
            if is_sound(program):
                runs += 1
                world = Runs(random).world()
                for count in [0, 5, 25]:
                    outcome, ticks = slowwalker.walk(program, world, count)
                    self.assertEqual(walk(program, world, count), outcome, (program, world, count))
                    self.assertEqual(tick_places(program, world, count), ticks)

    def test_w2(self):
        """Behind n ticks and behind more: the events of the first are the beginning of the others."""
        random = random_of("W2")
        maker = Runs(random)
        for _ in range(100 * MANY):
            program, world = maker.program(4), maker.world()
            last = walk(program, world, 40)
            ticks = tick_places(program, world, 40)
            self.assertEqual(last[0], len(ticks))
            for count in range(last[0] + 1):
                outcome = walk(program, world, count)
                self.assertEqual(outcome[0], count)
                self.assertEqual(outcome[3], last[3][:len(outcome[3])])
                self.assertEqual(tick_places(program, world, count), ticks[:count])
                if count < last[0]:
                    self.assertEqual(outcome[1], ("tick", ticks[count]))
                else:
                    self.assertEqual(outcome, last)

    def test_w3(self):
        random = random_of("W3")
        maker = Runs(random)
        waited = 0
        for _ in range(300 * MANY):
            program, world = maker.program(4), maker.world()
            other = more_of(world, random)
            self.assertIs(has_more(other, world), True)
            for count in [0, 4, 30]:
                outcome, longer = walk(program, world, count), walk(program, other, count)
                if outcome[1][0] == "more":
                    waited += 1
                    self.assertEqual(outcome[3], longer[3][:len(outcome[3])])
                    self.assertLessEqual(outcome[0], longer[0])
                else:
                    self.assertEqual(outcome, longer)
        self.assertGreater(waited, 50)

    def test_pieces(self):
        """A world that comes in pieces: the run goes on as if all had been told at once."""
        random = random_of("pieces")
        maker = Runs(random)
        for _ in range(100 * MANY):
            program, world = maker.program(4), maker.world()
            numbers = [0] * len(world[0])
            last = walk(program, world, 30)
            while numbers != [len(row[1]) for row in world[0]]:
                outcome = walk(program, cut_world(world, numbers), 30)
                self.assertEqual(outcome[3], last[3][:len(outcome[3])])
                if outcome[1][0] != "more":
                    self.assertEqual(outcome, last)
                short = [at for at, row in enumerate(world[0]) if numbers[at] < len(row[1])]
                numbers[random.choice(short)] += 1
            self.assertEqual(walk(program, cut_world(world, numbers), 30), last)

    def test_w4(self):
        """Two neighbouring main files run as one, but for their names and numbers."""
        random = random_of("W4")
        maker = Runs(random)
        runs = 0
        while runs < 150 * MANY:
            program = maker.program(4)
            names = all_names(program)
            if "FILENAME" in names or "FNR" in names or "RS" in names:
                continue
            runs += 1
            first = maker.line(8) + "\n"
            second = maker.line(8)
            whole = random.random() < 0.5
            asides = maker.world()[1]
            two = ((("f", first, True), ("g", second, whole)), asides)
            one = ((("f", first + second, whole),), asides)
            for count in [0, 7, 40]:
                self.assertEqual(self.bare(walk(program, two, count)), self.bare(walk(program, one, count)),
                        (program, two))
                self.assertEqual(tick_places(program, two, count), tick_places(program, one, count))

    def bare(self, outcome):
        """An outcome without FILENAME, FNR, the readers and the names in read events."""
        ticks, end, (place, room, frames), events = outcome
        held = tuple(row for row in room[2] if row[0] not in ("FILENAME", "FNR"))
        events = [event if event[:2] != ("read", "main") else event[:2] + event[3:] for event in events]
        return ticks, end, place, room[:2] + (held,) + room[3:6] + room[6][2:] + room[7:], frames, events


class TestNames(Case):

    def test_n2(self):
        """Slots of kind array hold arrays in each open call, all others values."""
        random = random_of("N2")
        maker = Runs(random)
        frames = 0
        for _ in range(150 * MANY):
            program, world = maker.program(5), maker.world()
            kinds = dict(slot_kinds(program))
            heads = {name: params for name, params, _ in program[1]}
            for count in range(0, 30, 3):
                _, room, calls = walk(program, world, count)[2]
                self.assertEqual([name for name, _ in room[2]], list(scalars(program)))
                self.assertEqual([name for name, _ in room[3]], [slot[1] for slot, kind in sorted(kinds.items())
                                                                if slot[0] == "" and kind == "array"])
                for name, cells in calls:
                    frames += 1
                    self.assertEqual(len(cells), len(heads[name]))
                    for param, cell in zip(heads[name], cells):
                        self.assertIs(cell[0] in ("table", "global", "own"), kinds[(name, param)] == "array")
        self.assertGreater(frames, 100)

    def test_n4(self):
        random = random_of("N4")
        maker = Runs(random)
        for _ in range(200 * MANY):
            program, world = maker.program(4), maker.world()
            most = deepest(program)
            rows = places(program)
            begin = len(rows) - sum(len(places(((), (function,)))) - 1 for function in program[1])
            owners = []
            for function in program[1]:
                owners.extend([function[0]] * (len(places(((), (function,)))) - 1))
            ticks = tick_places(program, world, 40)
            for place in ticks:
                self.assertTrue(place < begin or owners[place - begin] in reached(program))
            for count in range(0, 40, 5):
                outcome = walk(program, world, count)
                if most is not None:
                    self.assertLessEqual(len(outcome[2][2]), most)
                if outcome[1][:2] == ("error", "deep"):
                    self.assertTrue(most is None or most > 16)

    def test_n5(self):
        random = random_of("N5")
        maker = Runs(random)
        smaller_ones = 0
        for _ in range(200 * MANY):
            program, world = maker.program(4), maker.world()
            smaller, moved = without_unreached(program)
            smaller_ones += smaller != program
            outcome, other = walk(program, world, 40), walk(smaller, world, 40)
            self.assertEqual([moved[place] for place in tick_places(smaller, world, 40)],
                    tick_places(program, world, 40))
            self.assertEqual((outcome[0], outcome[3]), (other[0], other[3]))
            end = other[1]
            if end[0] in ("tick", "more"):
                end = (end[0], moved[end[1]])
            elif end[0] == "error":
                end = end[:2] + (moved[end[2]],)
            self.assertEqual(end, outcome[1])
        self.assertGreater(smaller_ones, 20)

    def test_n8(self):
        random = random_of("N8")
        maker = Runs(random)
        for _ in range(150 * MANY):
            program, world = maker.program(4), maker.world()
            names = [name for name in sorted(all_names(program)) if name not in SPECIALS]
            new = ["w%d" % at for at in range(len(names))]
            random.shuffle(new)
            other = random.choice([plain(program), renamed(program, list(zip(names, new)))])
            pairs = dict(likeness(program, other))
            for count in [0, 5, 40]:
                outcome, found = walk(program, world, count), walk(other, world, count)
                self.assertEqual((outcome[:2], outcome[3]), (found[:2], found[3]))
                self.assertEqual(tick_places(program, world, count), tick_places(other, world, count))
                self.check_rooms(outcome[2], found[2], pairs)

    def check_rooms(self, told, other, pairs):
        """Told states in which names differ alone."""
        self.assertEqual(told[0], other[0])
        for at in (2, 3):
            rows = {pairs.get(("", name), ("", name))[1]: worth for name, worth in told[1][at]}
            self.assertEqual(tuple(sorted(rows.items())), other[1][at])
        self.assertEqual(told[1][:2] + told[1][4:], other[1][:2] + other[1][4:])
        for (name, cells), (other_name, other_cells) in zip(told[2], other[2]):
            self.assertEqual(pairs[("", name)], ("", other_name))
            renamed_cells = tuple(pairs.get(("", cell[1]), ("",
                    cell[1])) if cell[0] == "global" else cell for cell in cells)
            self.assertEqual(renamed_cells, tuple(("",
                    cell[1]) if cell[0] == "global" else cell for cell in other_cells))

    def test_n9(self):
        """Two quiet programs beside each other: each has its own ticks, events and names."""
        random = random_of("N9")
        maker = Runs(random)
        quiet = []
        while len(quiet) < 60:
            program = maker.program(3)
            if is_quiet(program) and any(rule[0] not in ("begin", "end") for rule in program[0]):
                quiet.append(program)
        runs = 0
        for _ in range(200 * MANY):
            one, other, world = random.choice(quiet), random.choice(quiet), maker.world()
            alone = [walk(program, world, 150) for program in (one, other)]
            if any(outcome[1][0] != "over" and outcome[1] != ("more", 0) for outcome in alone):
                continue
            both, pairs, origins = beside(one, other)
            self.assertTrue(is_sound(both))
            outcome = walk(both, world, 400)
            if outcome[1][0] == "tick":
                continue
            runs += 1
            self.check_beside(both, world, (one, other), origins)
            table = dict(pairs)
            held = dict(room_of(outcome)[2] + room_of(outcome)[3])
            for which in (0, 1):
                for name, worth in room_of(alone[which])[2] + room_of(alone[which])[3]:
                    self.assertEqual(held[table.get(name, name) if which else name], worth)
        self.assertGreater(runs, 30)

    def check_beside(self, both, world, programs, origins):
        """The ticks and the events at the places of each program are those of its own run."""
        ticks = tick_places(both, world, 400)
        for which, program in enumerate(programs):
            wanted = tick_places(program, world, 400)
            self.assertEqual([origins[place][1] for place in ticks if place == 0 or origins[place][0] == which], wanted)
            written = []
            for count, place in enumerate(ticks, 1):
                behind, ahead = walk(both, world, count)[3], walk(both, world, count - 1)[3]
                if place == 0 or origins[place][0] == which:
                    written.extend(behind[len(ahead):])
            self.assertEqual(written, walk(program, world, 400)[3])


class TestLimits(Case):

    def test_w1(self):
        """Much is done between two ticks, but an end there is."""
        begun = time.process_time()
        source = "BEGIN { " + "x = x \"ab\"; " * 60 + "y = %s } function f(a) { return a %s }"
        call = "f(" * 10 + "1" + ")" * 10
        outcome = walk(program_of(source % (call, " + 1" * 60)), ((), ()), 400)
        self.assertEqual(outcome[1], ("over", 0))
        deep = "function f(n) { return n ? f(n - 1) + f(n - 1) + f(n - 1) : 1 } BEGIN { x = f(5) }"
        self.assertEqual(walk(program_of(deep), ((), ()), 400)[1], ("over", 0))
        self.assertLess(time.process_time() - begun, 20)

    def test_large_runs(self):
        begun = time.process_time()
        world = ((("f", "ab cd ef\n" * 1300, True),), ())
        source = "{ n[NR] = $0; for (k in n) if (k in n) break; s = s substr($2, 1, 1); print $1, $3 | \"o\" }"
        outcome = walk(program_of(source), world, 400)
        self.assertEqual((outcome[0], outcome[1][0]), (400, "tick"))
        source = """BEGIN { while (i++ < 190) x = split(sprintf("@200s@200s", "a", i), a, "") + split("b b", b, /()/) }
        END { gsub(/[a-c]+| /, "<&>", x) }"""
        self.assertEqual(walk(program_of(source), ((), ()), 400)[1], ("over", 0))
        for form in ["a*b", ".*b", "(a|b)*ba", "a*ab|b"]:
            source = """BEGIN { x = sprintf("@200s", ""); gsub(/ /, "aaaaaaaaaaaaaaaaaaaa", x)
            while (i++ < 30) { y += x ~ form; sub(form, "c", x) } }""".replace("form", "/" + form + "/")
            outcome = walk(program_of(source), ((), ()), 400)
            self.assertEqual((outcome[1], dict(room_of(outcome)[2])["y"]), (("over", 0), ("number", 0, 1)))
        self.assertLess(time.process_time() - begun, 30)


if __name__ == "__main__":
    unittest.main()
