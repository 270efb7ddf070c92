"""Feeds: which spots of a code what others hold can change, and where roots are planted."""

from patterndeeds.effects import entries_of, named_row
from patterndeeds.moves import RECORD, copies_of, scalar

# What feeds the record, whatever the code does.
RECORD_FEEDERS = ("NF", "FS", "OFS", "RS")


class Feeds:
    """The feeds of a sound code, by its moves, as a list of pairs of spots."""

    def __init__(self, code, moves):
        self.moves = moves
        self.pairs = copies_of(code, moves)
        for move in moves:
            self.lead_all(move.took, move.given)
            if move.row[0] in FEEDING:
                action = FEEDING[move.row[0]]
                action(self, move)
        self.lead_all([RECORD], [scalar("NF")])
        self.lead_all([scalar(name) for name in RECORD_FEEDERS], [RECORD])
        self.lead_reads()
        self.lead_walks()

    def lead_all(self, spots, others):
        """Lets each of some spots feed each of some others."""
        for spot in spots:
            for other in others:
                self.pairs.append((spot, other))

    def lead_reads(self):
        """The feeds of RS, and of the names that are read, written to and closed."""
        reads = [move for move in self.moves if move.row[0] == "read"]
        asides = [move for move in reads if move.row[1] != "main"]
        closes = [move for move in self.moves if move.row[0] == "close"]
        written = [move.took[-1] for move in self.moves if move.row[0] in ("print", "printf") and move.row[2] != ""]
        self.lead_all([scalar("RS")], [scalar("NR"), scalar("FNR")] + all_given(reads))
        names = [move.took[-1] for move in asides + closes]
        self.lead_all(names + written, all_given(closes))
        self.lead_all(names, all_given(asides) + [scalar("NR")])
        if [move for move in asides if move.row[2] == "record"]:
            self.lead_all(names, [RECORD])

    def lead_walks(self):
        """The feeds of walks to their keys, in each body."""
        for number in sorted(set([move.body for move in self.moves])):
            own = [move for move in self.moves if move.body == number]
            walked = [move.array() for move in own if move.row[0] == "walk"]
            self.lead_all(walked, all_given([move for move in own if move.row[0] == "next_key"]))


def all_given(moves):
    """The spots of all that some rows give."""
    return [spot for move in moves for spot in move.given]


def feed_from_array(feeds, move):
    """What is told of an array."""
    feeds.lead_all([move.array()], move.given)


def feed_element(feeds, move):
    """An entry that is read, and put there if it is not there."""
    feed_from_array(feeds, move)
    feed_key(feeds, move)


def feed_key(feeds, move):
    """A key, the last thing taken, that changes an array."""
    feeds.lead_all(move.took[-1:], [move.array()])


def feed_split(feeds, move):
    """A text that is parted into an array."""
    feeds.lead_all(move.took + [scalar("FS")], [move.array()])
    feeds.lead_all([scalar("FS")], move.given)


def feed_set_name(feeds, move):
    """NF, which gets the number of what it is set to."""
    if move.row[1] == "NF":
        feeds.lead_all(move.took, [scalar("NF")])


def feed_field(feeds, move):
    """A field of the record."""
    feeds.lead_all([RECORD], move.given)


def feed_set_field(feeds, move):
    """A field that is set."""
    feeds.lead_all(move.took, [RECORD])


def feed_parts(feeds, move):
    """A key of two parts or more."""
    if move.row[1] > 1:
        feeds.lead_all([scalar("SUBSEP")], move.given)


def feed_built(feeds, move):
    """The built-in match, which sets RSTART and RLENGTH."""
    if move.row[1] == "match":
        feeds.lead_all(move.took, [scalar("RSTART"), scalar("RLENGTH")])


FEEDING = {
    "element": feed_element, "is_in": feed_from_array, "size": feed_from_array, "set_element": feed_key,
    "delete": feed_key, "split": feed_split, "set_name": feed_set_name, "field": feed_field,
    "set_field": feed_set_field, "key": feed_parts, "built": feed_built,
}


def planted_roots(code, moves):
    """The list of the tuples (root, spot): where which roots are planted, by the moves of a sound code."""
    straight = straight_rows(code, moves)
    fieldwise = is_fieldwise(moves)
    found = []
    for move in moves:
        word = move.row[0]
        ahead = None
        if (move.body, move.at) in straight:
            ahead = code[3][move.body][2][move.at - 1]
        if word == "field":
            number = constant_index(ahead) if fieldwise else 0
            found.extend([(("field", number), spot) for spot in move.given])
        elif word == "read" and move.row[1] == "main" and move.row[2] == "value":
            found.extend([(("field", 0), spot) for spot in move.given])
        elif word == "read" and move.row[1] != "main":
            found.extend([((move.row[1], constant_name(ahead)), spot) for spot in aside_spots(move)])
    return found


def aside_spots(move):
    """The spots that a read of an aside sets by what it reads."""
    found = list(move.given)
    if move.row[1] == "|":
        found.append(scalar("NR"))
    if move.row[2] == "record":
        found.append(RECORD)
    return found


def straight_rows(code, moves):
    """A dict of the tuples (body, row) of the rows that are straight with the one ahead of them."""
    reached = {(move.body, move.at): True for move in moves}
    landed = {(move.body, named_row(move.row)): True for move in moves if named_row(move.row) is not None}
    for number, body in enumerate(code[3]):
        for at in entries_of(body):
            landed[(number, at)] = True
    return {(number, at): True for number, at in reached if (number, at - 1) in reached and (number, at) not in landed}


def is_fieldwise(moves):
    """Whether no row changes what the fields of a record are."""
    for move in moves:
        row = move.row
        if row[0] == "set_field" or row[0] == "set_name" and row[1] in ("NF", "FS", "RS"):
            return False
        if row[0] == "read" and row[1] != "main" and row[2] == "record":
            return False
    return True


def constant_index(row):
    """The integer from 0 on that a constant tells; 0 for another instruction, or for None."""
    if row is None or row[0] != "constant" or row[1][0] != "number" or row[1][2] != 1:
        return 0
    return max(row[1][1], 0)


def constant_name(row):
    """The name that a constant text tells; the empty text for another instruction, or for None."""
    if row is None or row[0] != "constant" or row[1][0] != "text":
        return ""
    return row[1][1]
