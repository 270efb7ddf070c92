"""Moves: what each row of a code takes from which spots and gives to which, and the copies between spots."""

from patterndeeds.effects import followers, many_taken

RECORD = ("record",)


class Move:
    """A reached row of a live body.

    took has the spots of the values that it takes, given of those that it gives, left pairs of the spots
    of what it leaves alone. places has, for each thing that a call takes, the spots of the arrays that may
    be handed over there.
    """

    def __init__(self, body, at, row):
        self.body = body
        self.at = at
        self.row = row
        self.took = []
        self.given = []
        self.left = []
        self.places = []

    def array(self):
        """The spot of the array that the instruction works on."""
        return array_spot(self.body, self.row[1])


def array_spot(body, where):
    """The spot of an array place of a body."""
    if where[0] == "global":
        return ("array", where[1])
    return ("local", body, where[1])


def scalar(name):
    """The spot of a scalar."""
    return ("scalar", name)


def numbers_of(code):
    """The numbers of the bodies of a code, by their names."""
    return {body[0]: number for number, body in enumerate(code[3])}


def live_bodies(code, shapes):
    """The ascending list of the numbers of the live bodies of a sound code with these shapes."""
    numbers = numbers_of(code)
    live = {0: True}
    waiting = [0]
    while waiting:
        number = waiting.pop()
        for row, shape in zip(code[3][number][2], shapes[number]):
            if shape is not None and row[0] == "call" and numbers[row[1]] not in live:
                live[numbers[row[1]]] = True
                waiting.append(numbers[row[1]])
    return sorted(live)


def moves_of(code, shapes):
    """The list of the moves of a sound code with these shapes."""
    moves = []
    for number in live_bodies(code, shapes):
        rows = code[3][number][2]
        handed = handed_arrays(number, rows, shapes[number])
        for at, shape in enumerate(shapes[number]):
            if shape is not None:
                moves.append(move_at(number, rows, at, shapes[number], handed))
    return moves


def move_at(number, rows, at, shapes, handed):
    """The move of a row of a body with this number and these shapes."""
    row = rows[at]
    move = Move(number, at, row)
    base = len(shapes[at]) - many_taken(row)
    move.took = entries_at(number, at, shapes[at], base)
    for following, _ in followers(rows, at):
        if row[0] != "next":
            for height in range(base):
                if shapes[at][height] == "value":
                    move.left.append((("entry", number, at, height), ("entry", number, following, height)))
            move.given.extend(entries_at(number, following, shapes[following], base))
    if row[0] == "call":
        move.places = [sorted(handed.get((at, base + height), {})) for height in range(row[2])]
    return move


def entries_at(number, at, shape, base):
    """The spots of the values that stand on the stack ahead of a row, from a height on."""
    return [("entry", number, at, height) for height in range(base, len(shape)) if shape[height] == "value"]


def handed_arrays(number, rows, shapes):
    """For each tuple (row, height) of an array on the stack a dict with the spots of the arrays that it may be."""
    found = {}
    waiting = []
    for at, shape in enumerate(shapes):
        if shape is not None and rows[at][0] == "array":
            waiting.append((at + 1, len(shape), array_spot(number, rows[at][1])))
    while waiting:
        at, height, spot = waiting.pop()
        known = found.setdefault((at, height), {})
        if spot not in known:
            known[spot] = True
            if rows[at][0] != "next" and height < len(shapes[at]) - many_taken(rows[at]):
                waiting.extend([(following, height, spot) for following, _ in followers(rows, at)])
    return found


def copies_of(code, moves):
    """The list of the pairs of spots of which the second one is a copy of the first."""
    numbers = numbers_of(code)
    pairs = []
    for move in moves:
        pairs.extend(move.left)
        word = move.row[0]
        if word == "call":
            pairs.extend(call_copies(move, numbers[move.row[1]], code))
        elif word in COPYING:
            action = COPYING[word]
            pairs.extend(action(move))
    return pairs


def call_copies(move, called, code):
    """The copies of a call of the body with this number."""
    pairs = [(("result", called), move.given[0])]
    params = code[3][called][1][:move.row[2]]
    values = list(move.took)
    for at, kind in enumerate(params):
        local = ("local", called, at)
        if kind == "value":
            pairs.append((values.pop(0), local))
        else:
            for spot in move.places[at]:
                pairs.append((spot, local))
                pairs.append((local, spot))
    return pairs


def copy_given_back(move):
    """The first thing taken, given back each time."""
    return [(move.took[0], spot) for spot in move.given]


def copy_turned(move):
    """The things taken, of which the first one is given last."""
    return list(zip(move.took[1:] + move.took[:1], move.given))


def copy_name(move):
    """A scalar that is read."""
    return [(scalar(move.row[1]), move.given[0])]


def copy_local(move):
    """A local that is read."""
    return [(("local", move.body, move.row[1]), move.given[0])]


def copy_element(move):
    """An array of which an entry is read."""
    return [(move.array(), move.given[0])]


def copy_set_name(move):
    """A scalar that is set, but NF, which gets a number of its own."""
    pairs = copy_given_back(move)
    if move.row[1] != "NF":
        pairs.append((move.took[0], scalar(move.row[1])))
    return pairs


def copy_set_local(move):
    """A local that is set."""
    return copy_given_back(move) + [(move.took[0], ("local", move.body, move.row[1]))]


def copy_set_element(move):
    """An array of which an entry is set."""
    return copy_given_back(move) + [(move.took[0], move.array())]


def copy_return(move):
    """A value that is returned."""
    return [(move.took[0], ("result", move.body))]


COPYING = {
    "copy": copy_given_back, "turn": copy_turned, "name": copy_name, "local": copy_local, "element": copy_element,
    "set_name": copy_set_name, "set_local": copy_set_local, "set_field": copy_given_back,
    "set_element": copy_set_element, "return": copy_return,
}
