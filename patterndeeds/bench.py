"""The bench: a run that goes forward and back, and whose world gets more."""

from patterndeeds.courses import check_ticks, is_deed, parting_tick, watched, written_ticks
from patterndeeds.errors import (
    DeedError, InvalidDeeds, InvalidPlace, NoBlock, NothingToUndo, Refused, UnknownName, Written,
)
from patterndeeds.kinds import sound_kinds
from patterndeeds.names import check_program
from patterndeeds.runs import Run
from patterndeeds.stepping import go_on
from patterndeeds.trees import places
from patterndeeds.worlds import check_world, with_aside, with_main
from patterndeeds.writingbodies import program_code

TICKING = ("go", "run")


class Bench:
    """A run of a program, and the deeds that led to where it stands.

    _before has, for each deed, the ticks, the world and the marks ahead of it; _blocks the numbers of
    deeds at which the open blocks begin. _present is the run behind the ticks and its end, or None as
    long as nothing asks for it.
    """

    def __init__(self, program, world):
        check_program(program)
        check_world(world)
        self._program = program
        self._first = world
        self._code = program_code(program, sound_kinds(program))
        self._many_places = len(places(program))
        self._ticks = 0
        self._world = world
        self._marks = ()
        self._deeds = ()
        self._before = []
        self._blocks = []
        self._present = None

    @property
    def program(self):
        """The program."""
        return self._program

    @property
    def world(self):
        """The world as it is now."""
        return self._world

    @property
    def ticks(self):
        """How many ticks are done."""
        return self._ticks

    @property
    def marks(self):
        """The ascending list of the marked places."""
        return list(self._marks)

    @property
    def deeds(self):
        """The list of the deeds."""
        return list(self._deeds)

    @property
    def depth(self):
        """The number of open blocks."""
        return len(self._blocks)

    def __len__(self):
        return len(self._deeds)

    def __iter__(self):
        return iter(self._deeds)

    def __eq__(self, other):
        if not type(self) is type(other):
            return False
        return self._program == other._program and self._first == other._first and self._deeds == other._deeds

    def go(self, count):
        """Does count more ticks, or as many as there are; how many."""
        check_ticks(count)
        run = self._run_now()[0]
        done, end = go_on(run, count)
        self._note(("go", count))
        self._ticks += len(done)
        self._present = (run, end)
        return len(done)

    def run(self, count):
        """Does ticks, one at least, until one at a marked place comes next, none can be done, or count are done."""
        check_ticks(count)
        run, end = self._run_now()
        total = 0
        going = True
        while going:
            done, end = go_on(run, 1)
            total += len(done)
            going = len(done) == 1 and total < count and not (end[0] == "tick" and end[1] in self._marks)
        self._note(("run", count))
        self._ticks += total
        self._present = (run, end)
        return total

    def back(self, count):
        """Goes back by so many ticks."""
        self._check_back(count)
        self._note(("back", count))
        self._ticks -= count
        self._present = None
        return count

    def mark(self, place):
        """Marks a place."""
        if type(place) is not int or not 0 <= place < self._many_places or place in self._marks:
            raise InvalidPlace("the program has no such place, or it is marked")
        self._note(("mark", place))
        self._marks = tuple(sorted(self._marks + (place,)))

    def unmark(self, place):
        """Takes the mark of a place away."""
        if type(place) is not int or place not in self._marks:
            raise InvalidPlace("no such place is marked")
        self._note(("unmark", place))
        self._marks = tuple([one for one in self._marks if one != place])

    def more_main(self, index, text, whole):
        """Tells more of a main file."""
        self._set_world(("main", index, text, whole), with_main(self._world, index, text, whole))

    def more_aside(self, kind, name, text, whole):
        """Tells more of an aside."""
        if (kind, name) not in [row[:2] for row in self._world[1]]:
            raise UnknownName("there is no such aside")
        self._set_world(("aside", kind, name, text, whole), with_aside(self._world, kind, name, text, whole))

    def undo(self):
        """Takes back the last deed, and returns it."""
        self._check_undo()
        return self._take_back()

    def begin(self):
        """Opens a block."""
        self._blocks.append(len(self._deeds))

    def keep(self):
        """Ends the innermost block and keeps its deeds."""
        self._check_block()
        self._blocks.pop()

    def drop(self):
        """Ends the innermost block and takes its deeds back."""
        self._check_block()
        first = self._blocks.pop()
        while len(self._deeds) > first:
            self._take_back()

    def twin(self):
        """An independent bench with the same program, first world and deeds, and no block."""
        other = Bench(self._program, self._first)
        other._take_over(self)
        return other

    def end(self):
        """The end of the outcome."""
        return self._run_now()[1]

    def told(self):
        """The told state."""
        return self._run_now()[0].told()

    def events(self):
        """The list of the events."""
        return list(self._run_now()[0].happened)

    def held(self):
        """The held state of the code."""
        return self._run_now()[0].held()

    def place(self):
        """The place of the told state."""
        return self._run_now()[0].at_place

    def value(self, name):
        """What a scalar holds."""
        self._check_scalar(name)
        return self._run_now()[0].scalars[name]

    def entry(self, name, key):
        """The value of an entry of an array; None if it is not there."""
        if name not in self._code[1]:
            raise UnknownName("no array has this name")
        return self._run_now()[0].arrays[name].get(key)

    def output(self, kind, name):
        """The text of an output; None if there is none."""
        outputs = self._run_now()[0].outputs
        if (kind, name) not in outputs:
            return None
        return outputs[(kind, name)].told()[2]

    def watch(self, name):
        """The list of the tuples (tick, value) of the ticks behind which a scalar holds something new."""
        self._check_scalar(name)
        return watched(self._code, self._world, name, self._ticks)

    def parts_from(self, other):
        """The least number of ticks behind which what two benches tell differs; None if there is none."""
        run = Run(self._code, self._world)
        other_run = Run(other._code, other._world)
        return parting_tick(run, other_run, min(self._ticks, other._ticks))

    def _run_now(self):
        """The run behind the ticks, and its end."""
        if self._present is None:
            run = Run(self._code, self._world)
            end = go_on(run, self._ticks)[1]
            self._present = (run, end)
        return self._present

    def _note(self, deed):
        """Notes a deed that is about to be done."""
        self._before.append((self._ticks, self._world, self._marks))
        self._deeds = self._deeds + (deed,)

    def _set_world(self, deed, world):
        """Does a deed by which the world gets more."""
        self._note(deed)
        self._world = world
        self._present = None

    def _take_back(self):
        """Takes back the last deed, and returns it."""
        deed = self._deeds[-1]
        self._deeds = self._deeds[:-1]
        self._ticks, self._world, self._marks = self._before.pop()
        self._present = None
        return deed

    def _take_over(self, other):
        """Takes over the deeds of a bench, and what they led to."""
        self._ticks = other._ticks
        self._world = other._world
        self._marks = other._marks
        self._deeds = other._deeds
        self._before = list(other._before)

    def _check_back(self, count):
        """Raises InvalidCount, or Refused if fewer ticks are done."""
        check_ticks(count)
        if count > self._ticks:
            raise Refused("fewer ticks are done")

    def _check_undo(self):
        """Raises NothingToUndo if there is no deed, or none behind the beginning of the innermost block."""
        first = 0
        if self._blocks:
            first = self._blocks[-1]
        if len(self._deeds) == first:
            raise NothingToUndo("there is no deed to undo")

    def _check_block(self):
        """Raises NoBlock if no block is open."""
        if self._blocks == []:
            raise NoBlock("no block is open")

    def _check_scalar(self, name):
        """Raises UnknownName unless a name is one of the scalars."""
        if name not in self._code[0]:
            raise UnknownName("no scalar has this name")


class TiedBench(Bench):
    """A bench that takes no tick back that wrote something."""

    def back(self, count):
        """Goes back by so many ticks."""
        self._check_back(count)
        self._check_written([(self._ticks - count, self._ticks)])
        return super().back(count)

    def undo(self):
        """Takes back the last deed, and returns it."""
        self._check_undo()
        self._check_written(self._ticks_done(len(self._deeds) - 1))
        return super().undo()

    def drop(self):
        """Ends the innermost block and takes its deeds back."""
        self._check_block()
        self._check_written(self._ticks_done(self._blocks[-1]))
        super().drop()

    def twin(self):
        """An independent bench with the same program, first world and deeds, and no block."""
        other = TiedBench(self._program, self._first)
        other._take_over(self)
        return other

    def _ticks_done(self, first):
        """For each deed, from one on, that did ticks the numbers of ticks ahead of it and behind it."""
        numbers = [row[0] for row in self._before] + [self._ticks]
        ticking = [at for at in range(first, len(self._deeds)) if self._deeds[at][0] in TICKING]
        return [(numbers[at], numbers[at + 1]) for at in ticking]

    def _check_written(self, stretches):
        """Raises Written if a tick wrote something that lies behind the one number and not behind the other one."""
        most = max([end for _, end in stretches] + [0])
        last = 0
        for tick in written_ticks(self._code, self._world, most):
            for start, end in stretches:
                if start < tick <= end:
                    last = tick
        if last > 0:
            raise Written(last)


def replay(program, world, deeds):
    """The bench with some deeds."""
    bench = Bench(program, world)
    if type(deeds) is not list:
        raise InvalidDeeds(0)
    for at, deed in enumerate(deeds):
        if not is_deed(deed) or not can_do(bench, deed):
            raise InvalidDeeds(at)
    return bench


def can_do(bench, deed):
    """Does what has the form of a deed; whether it could be done."""
    try:
        do_deed(bench, deed)
    except DeedError:
        return False
    return True


def do_deed(bench, deed):
    """Does a deed."""
    word = deed[0]
    if word == "go":
        bench.go(deed[1])
    elif word == "back":
        bench.back(deed[1])
    elif word == "run":
        bench.run(deed[1])
    elif word == "mark":
        bench.mark(deed[1])
    elif word == "unmark":
        bench.unmark(deed[1])
    elif word == "main":
        bench.more_main(deed[1], deed[2], deed[3])
    else:
        bench.more_aside(deed[1], deed[2], deed[3], deed[4])
