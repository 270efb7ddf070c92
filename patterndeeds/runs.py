"""Runs: the state of a run of a code, and how it is told."""

from patterndeeds.automata import Automaton
from patterndeeds.errors import RunError
from patterndeeds.parting import Parter, Taker
from patterndeeds.patterns import read_or_none
from patterndeeds.records import field_separator, record_separator
from patterndeeds.values import UNSET, text_of

# What the special names hold at first.
BEGINNING = {
    "FILENAME": ("text", ""), "FNR": ("number", 0, 1), "FS": ("text", " "), "NF": ("number", 0, 1),
    "NR": ("number", 0, 1), "OFS": ("text", " "), "ORS": ("text", "\n"), "RLENGTH": ("number", -1, 1),
    "RS": ("text", "\n"), "RSTART": ("number", 0, 1), "SUBSEP": ("text", "\t"),
}


class Frame:
    """An open call.

    cells has what the parameters hold: a value, a dict for an array of its own, or a reference. base
    is the number of things on the stack beneath its own; origin is the body, the row and the place to
    which it returns.
    """

    def __init__(self, name, cells, base, origin):
        self.name = name
        self.cells = cells
        self.base = base
        self.origin = origin

    def told(self):
        """The frame as it is told."""
        return (self.name, tuple([told_cell(cell) for cell in self.cells]))

    def held(self):
        """The frame as a held state has it."""
        return self.told() + (self.base, self.origin)


class Output:
    """What is written to one name."""

    def __init__(self, kind, name, text, is_open):
        self.kind = kind
        self.name = name
        self.parts = [text]
        self.is_open = is_open

    def told(self):
        """The output as it is told."""
        return (self.kind, self.name, "".join(self.parts), self.is_open)


class Run:
    """The state of a run: its room, its open calls, its stack, and where it stands.

    It begins with a held state, the first one without one. ending is None as long as the run may go on;
    happened has its events. What is worked out from texts of separators and patterns is kept, as the same
    ones come again and again.
    """

    def __init__(self, code, world, held=None):
        if held is None:
            held = first_held(code)
        ending, place, at, stack, calls, room = held
        self.bodies = code[3]
        self.numbers = {body[0]: number for number, body in enumerate(code[3])}
        self.mains = world[0]
        self.asides = {row[:2]: row[2:] for row in world[1]}
        self.furnish(room)
        self.frames = [Frame(name, [cell_of(told) for told in cells], base, back) for name, cells, base, back in calls]
        self.stack = list(stack)
        self.body, self.row = at
        self.rows = self.bodies[self.body][2]
        self.at_place = place
        self.ending = ending
        self.happened = []
        self.automata = {}
        self.parters = {}
        self.takers = {}

    def furnish(self, room):
        """Lets the run have a room."""
        phase, exit_code, scalars, arrays, ranges, record, readers, outputs = room
        self.phase = phase
        self.exit_code = exit_code
        self.scalars = dict(scalars)
        self.arrays = {name: dict(table) for name, table in arrays}
        self.ranges = list(ranges)
        self.record = record
        self.index, self.signs_taken, asides = readers
        self.readers = {(kind, name): at for kind, name, at in asides}
        self.outputs = {row[:2]: Output(row[0], row[1], row[2], row[3]) for row in outputs}

    def enter(self, body):
        """Lets the rows of a body be done."""
        self.body = body
        self.rows = self.bodies[body][2]

    def special(self, name):
        """The text of what a special name holds."""
        return text_of(self.scalars[name])

    def automaton_of(self, text):
        """The automaton of the pattern that a text is read as."""
        if text not in self.automata:
            pattern = read_or_none(text)
            if pattern is None:
                raise RunError("pattern")
            self.automata[text] = Automaton(pattern)
        return self.automata[text]

    def parter_of(self, text, paragraphs):
        """What parts texts into fields as a text tells."""
        if (text, paragraphs) not in self.parters:
            self.parters[(text, paragraphs)] = Parter(field_separator(text), paragraphs)
        return self.parters[(text, paragraphs)]

    def taker_now(self):
        """What takes records off inputs as RS tells."""
        text = self.special("RS")
        if text not in self.takers:
            self.takers[text] = Taker(record_separator(text))
        return self.takers[text]

    def array_at(self, where):
        """The dict of the array at an array place, or to which a reference leads."""
        if where[0] == "global":
            return self.arrays[where[1]]
        if where[0] == "own":
            return self.frames[where[1]].cells[where[2]]
        cell = self.frames[-1].cells[where[1]]
        if type(cell) is dict:
            return cell
        return self.array_at(cell)

    def reference(self, where):
        """The reference to the array at an array place."""
        if where[0] == "global":
            return where
        cell = self.frames[-1].cells[where[1]]
        if type(cell) is dict:
            return ("own", len(self.frames) - 1, where[1])
        return cell

    def held(self):
        """The held state."""
        calls = tuple([frame.held() for frame in self.frames])
        return (self.ending, self.at_place, (self.body, self.row), tuple(self.stack), calls, self.room())

    def told(self):
        """The told state."""
        return (self.at_place, self.room(), tuple([frame.told() for frame in self.frames]))

    def room(self):
        """The room."""
        arrays = [(name, told_table(table)) for name, table in self.arrays.items()]
        asides = [key + (self.readers[key],) for key in sorted(self.readers)]
        return (
            self.phase,
            self.exit_code,
            tuple(self.scalars.items()),
            tuple(arrays),
            tuple(self.ranges),
            self.record,
            (self.index, self.signs_taken, tuple(asides)),
            tuple([self.outputs[key].told() for key in self.outputs]),
        )


def first_held(code):
    """The first held state of a code."""
    scalars = tuple([(name, BEGINNING.get(name, UNSET)) for name in code[0]])
    arrays = tuple([(name, ()) for name in code[1]])
    room = ("begin", 0, scalars, arrays, (False,) * code[2], ("", ()), (-1, 0, ()), ())
    return (None, 0, (0, 0), (), (), room)


def cell_of(told):
    """What a parameter holds, by what is told of it."""
    if told[0] == "table":
        return dict(told[1])
    return told


def told_table(table):
    """A dict as a table."""
    return tuple([(key, table[key]) for key in sorted(table)]) if table else ()


def told_cell(cell):
    """What a parameter holds as it is told."""
    if type(cell) is dict:
        return ("table", told_table(cell))
    return cell
