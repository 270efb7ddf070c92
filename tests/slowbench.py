"""A bench that asks the walker anew each time, and keeps nothing but the deeds that stand."""

from patterndeeds.kinds import arrays, scalars
from patterndeeds.trees import places
from patterndeeds.walker import tick_places, walk

MOST = 10 ** 4


class Wrong(Exception):
    """The word of an error, and what it keeps."""


class SlowBench:
    """first and deeds tell all; states has (ticks, world, marks) behind each number of deeds."""

    def __init__(self, program, world, tied=False):
        self.program, self.first, self.tied = program, world, tied
        self.deeds, self.states, self.blocks = [], [(0, world, frozenset())], []

    def state(self):
        return self.states[-1]

    def outcome(self, ticks=None):
        number, world, _ = self.state()
        return walk(self.program, world, number if ticks is None else ticks)

    def possible(self):
        """The places of all ticks that can be done in the world as it is now, up to a limit."""
        return tick_places(self.program, self.state()[1], self.state()[0] + 450)

    def written(self):
        """The ticks that write something, in the world as it is now."""
        most = max(state[0] for state in self.states)
        events = [self.outcome(ticks)[3] for ticks in range(most + 1)]
        return [tick for tick in range(1, most + 1)
                if any(event[0] == "write" for event in events[tick][len(events[tick - 1]):])]

    def check_written(self, stretches):
        if self.tied:
            ticks = [tick for tick in self.written() if any(low < tick <= high for low, high in stretches)]
            if ticks:
                raise Wrong("Written", max(ticks))

    def do(self, deed):
        """Does a deed; what its method returns."""
        ticks, world, marks = self.state()
        word, result = deed[0], None
        if word in ("go", "back", "run") and (type(deed[1]) is not int or deed[1] < 1):
            raise Wrong("InvalidCount")
        if word == "go":
            result = min(deed[1], len(self.possible()) - ticks)
            ticks += result
        elif word == "run":
            rows = self.possible()[ticks:]
            result = 0
            while result < min(deed[1], len(rows)):
                result += 1
                if result < len(rows) and rows[result] in marks:
                    break
            ticks += result
        elif word == "back":
            if deed[1] > ticks:
                raise Wrong("Refused")
            self.check_written([(ticks - deed[1], ticks)])
            result = deed[1]
            ticks -= deed[1]
        elif word == "mark":
            if deed[1] not in range(len(places(self.program))) or deed[1] in marks:
                raise Wrong("InvalidPlace")
            marks = marks | {deed[1]}
        elif word == "unmark":
            if deed[1] not in marks:
                raise Wrong("InvalidPlace")
            marks = marks - {deed[1]}
        elif word == "main":
            world = (self.more(list(world[0]), deed[1] if deed[1] in range(len(world[0])) else None, deed), world[1])
        else:
            found = [at for at, row in enumerate(world[1]) if row[:2] == deed[1:3]]
            world = (world[0], self.more(list(world[1]), found[0] if found else None, deed))
        self.deeds.append(deed)
        self.states.append((ticks, world, marks))
        return result

    def more(self, rows, at, deed):
        if at is None:
            raise Wrong("InvalidIndex" if deed[0] == "main" else "UnknownName")
        row = rows[at]
        if row[-1]:
            raise Wrong("Whole")
        rows[at] = row[:-2] + (row[-2] + deed[-2], deed[-1])
        return tuple(rows)

    def stretch(self, at):
        """The ticks that the deed with this index did."""
        return [(self.states[at][0], self.states[at + 1][0])] if self.deeds[at][0] in ("go", "run") else []

    def undo(self):
        if len(self.deeds) == (self.blocks[-1] if self.blocks else 0):
            raise Wrong("NothingToUndo")
        self.check_written(self.stretch(len(self.deeds) - 1))
        self.states.pop()
        return self.deeds.pop()

    def begin(self):
        self.blocks.append(len(self.deeds))

    def keep(self):
        if not self.blocks:
            raise Wrong("NoBlock")
        self.blocks.pop()

    def drop(self):
        if not self.blocks:
            raise Wrong("NoBlock")
        first = self.blocks[-1]
        self.check_written([one for at in range(first, len(self.deeds)) for one in self.stretch(at)])
        self.blocks.pop()
        del self.deeds[first:], self.states[first + 1:]

    def value(self, name):
        if name not in scalars(self.program):
            raise Wrong("UnknownName")
        return dict(self.outcome()[2][1][2])[name]

    def entry(self, name, key):
        if name not in arrays(self.program):
            raise Wrong("UnknownName")
        return dict(dict(self.outcome()[2][1][3])[name]).get(key)

    def output(self, kind, name):
        return {row[:2]: row[2] for row in self.outcome()[2][1][7]}.get((kind, name))

    def watch(self, name):
        if name not in scalars(self.program):
            raise Wrong("UnknownName")
        values = [dict(self.outcome(ticks)[2][1][2])[name] for ticks in range(self.state()[0] + 1)]
        return [(at, one) for at, one in enumerate(values) if at == 0 or one != values[at - 1]]

    def parts_from(self, other):
        for ticks in range(min(self.state()[0], other.state()[0]) + 1):
            if self.outcome(ticks)[1:] != other.outcome(ticks)[1:]:
                return ticks
        return None

    def twin(self):
        made = SlowBench(self.program, self.first, self.tied)
        made.deeds, made.states = list(self.deeds), list(self.states)
        return made
