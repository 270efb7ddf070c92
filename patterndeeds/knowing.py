"""Knowing ahead: which kinds of values the spots of a code may hold."""

from patterndeeds.checker import checked_shapes
from patterndeeds.errors import InvalidKind, InvalidSpot
from patterndeeds.folding import swept
from patterndeeds.moves import RECORD, array_spot, copies_of, live_bodies, moves_of, numbers_of, scalar
from patterndeeds.rewriting import without_gaps
from patterndeeds.runs import BEGINNING
from patterndeeds.signs import SPECIALS
from patterndeeds.spreading import Spreading, is_chain

KINDS = ("number", "seen", "text", "unset")
# The instructions that give a number, a text, and nothing else that is no copy.
NUMBER_GIVERS = (
    "op", "minus", "plus", "not", "compare", "compare_as", "match", "range", "is_in", "size", "close", "split",
)
TEXT_GIVERS = ("key", "join", "next_key")
# The built-in words that give a number.
NUMBER_WORDS = ("length", "index", "int", "match")


class Knowledge:
    """The spots of a sound code, the first kinds, and how kinds spread.

    firsts has for each kind a dict of the spots that have it as a first kind.
    """

    def __init__(self, code):
        self.shapes = checked_shapes(code)
        moves = moves_of(code, self.shapes)
        self.spots = spots_of(code, self.shapes)
        self.firsts = {kind: {} for kind in KINDS}
        self.note_beginnings(code)
        for move in moves:
            self.note_given(move)
            self.note_besides(move, code)
        self.spreading = Spreading(copies_of(code, moves))

    def note(self, spot, kinds):
        """Notes first kinds of a spot."""
        for kind in kinds:
            self.firsts[kind][spot] = True

    def note_beginnings(self, code):
        """Notes what scalars hold at first, and what NF and its kin are set to."""
        for name in code[0]:
            if name in SPECIALS:
                self.note(scalar(name), (BEGINNING[name][0],))
            else:
                self.note(scalar(name), ("unset",))

    def note_given(self, move):
        """Notes the kinds of what an instruction gives."""
        for spot, kinds in zip(move.given, given_kinds(move.row)):
            self.note(spot, kinds)

    def note_besides(self, move, code):
        """Notes the kinds that an instruction puts into arrays and locals."""
        word = move.row[0]
        if word == "element":
            self.note(move.array(), ("unset",))
        elif word == "split":
            self.note(move.array(), ("seen",))
        elif word == "call":
            called = numbers_of(code)[move.row[1]]
            params = code[3][called][1]
            for at in range(move.row[2], len(params)):
                if params[at] == "value":
                    self.note(("local", called, at), ("unset",))

    def kinds_of_spots(self):
        """For each spot that has kinds the ascending list of these."""
        table = {}
        for kind in KINDS:
            for spot in self.spreading.reached_from(self.firsts[kind]):
                table.setdefault(spot, []).append(kind)
        return table


def given_kinds(row):
    """The kinds of the things that an instruction gives, as far as they are no copies."""
    word = row[0]
    if word in NUMBER_GIVERS or word == "built" and row[1] in NUMBER_WORDS or word == "read" and row[2] == "record":
        return (("number",),)
    if word in TEXT_GIVERS or word == "built":
        return (("text",),)
    if word == "constant":
        return ((row[1][0],),)
    if word == "read":
        return (("seen", "unset"), ("number",))
    if word == "field":
        return (("seen", "unset"),)
    if word == "substitute":
        return (("text",), ("number",))
    return ()


def spots_of(code, shapes):
    """A dict of the spots of a sound code with these shapes."""
    found = [RECORD]
    found.extend([scalar(name) for name in code[0]])
    found.extend([array_spot(0, ("global", name)) for name in code[1]])
    for number in live_bodies(code, shapes):
        if number > 0:
            found.append(("result", number))
        found.extend([("local", number, at) for at in range(len(code[3][number][1]))])
        for at, shape in enumerate(shapes[number]):
            for height, word in enumerate(shape or ()):
                if word == "value":
                    found.append(("entry", number, at, height))
    return {spot: True for spot in found}


def is_spot(known, value):
    """Whether any value is one of the known spots."""
    if type(value) is not tuple or len(value) == 0 or [part for part in value if type(part) not in (str, int)] != []:
        return False
    return value in known


def check_spot(known, spot):
    """Raises InvalidSpot unless a value is one of the known spots."""
    if not is_spot(known, spot):
        raise InvalidSpot("the value is no spot of the code")


def check_kind(kind):
    """Raises InvalidKind unless a value is one of the kinds."""
    if type(kind) is not str or kind not in KINDS:
        raise InvalidKind("the value is no kind")


def spots(code):
    """The ascending list of all spots of a code."""
    return sorted(spots_of(code, checked_shapes(code)))


def spot_kinds(code, spot):
    """The ascending list of the kinds of a spot."""
    knowledge = Knowledge(code)
    check_spot(knowledge.spots, spot)
    return knowledge.kinds_of_spots().get(spot, [])


def kind_reason(code, spot, kind):
    """A shortest reason for a kind of a spot; None if it has not this kind."""
    knowledge = Knowledge(code)
    check_spot(knowledge.spots, spot)
    check_kind(kind)
    return knowledge.spreading.chain_to(knowledge.firsts[kind], spot)


def is_kind_reason(code, spot, kind, value):
    """Whether any value is a reason for a kind of a spot."""
    knowledge = Knowledge(code)
    check_spot(knowledge.spots, spot)
    check_kind(kind)
    if not is_chain(value) or [one for one in value if not is_spot(knowledge.spots, one)] != []:
        return False
    return knowledge.spreading.leads(knowledge.firsts[kind], value, spot)


def sharpened(code):
    """The code with comparisons by the kinds of what they compare, without what changes no value."""
    code = swept(code)
    knowledge = Knowledge(code)
    kinds = knowledge.kinds_of_spots()
    bodies = list(code[3])
    for number in live_bodies(code, knowledge.shapes):
        body = bodies[number]
        rows = [sharper_row(row, [kinds.get(("entry", number, at, height), []) for height in range(len(shape))])
                for at, (row, shape) in enumerate(zip(body[2], knowledge.shapes[number]))]
        bodies[number] = body[:2] + (without_gaps(rows),)
    return code[:3] + (tuple(bodies),)


def sharper_row(row, kinds):
    """What stands for an instruction ahead of which things of these kinds are on the stack; None for nothing."""
    if row[0] == "compare":
        if [kind for kind in kinds[-1] + kinds[-2] if kind != "number" and kind != "unset"] == []:
            return ("compare_as", "number", row[1])
        if ["text"] in kinds[-2:]:
            return ("compare_as", "text", row[1])
    if row == ("plus",) and kinds[-1] == ["number"] or row == ("key", 1) and kinds[-1] == ["text"]:
        return None
    return row
