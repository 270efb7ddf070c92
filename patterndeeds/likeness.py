"""Likeness: which codes go alike, where they part, and the least code of those that go alike."""

from patterndeeds.checker import check_code, checked_shapes, sound_shapes
from patterndeeds.effects import ENDING, PHASE_END, named_row
from patterndeeds.folding import goal_of
from patterndeeds.strips import laid_out, plain_row

# These may go on to the row that they name or not.
CHOOSING = ("jump_if", "next_key", "record")


def go_alike(code, other_code):
    """Whether two codes go alike."""
    check_two(code, other_code)
    return has_same_heads(code, other_code) and first_parting(code, other_code) is None


def code_parting(code, other_code):
    """The shortest, then the least of the code partings of two codes; None if there is none."""
    check_two(code, other_code)
    if not has_same_heads(code, other_code):
        return None
    return first_parting(code, other_code)


def check_two(code, other_code):
    """Raises InvalidCode, UnsoundCode unless two values are sound codes."""
    check_code(code)
    check_code(other_code)
    sound_shapes(code)
    sound_shapes(other_code)


def has_same_heads(code, other_code):
    """Whether the scalars, arrays, ranges, names and params of two codes are the same."""
    if code[:3] != other_code[:3]:
        return False
    return [body[:2] for body in code[3]] == [body[:2] for body in other_code[3]]


class Pair:
    """A row of each of two codes to which one way leads.

    group is the number of the way among those of this length, ascending; before is the pair ahead,
    truth whether the way went on from there to the row that is named.
    """

    def __init__(self, group, start, rows, before, truth):
        self.group = group
        self.start = start
        self.rows = rows
        self.before = before
        self.truth = truth

    def way(self):
        """The way that leads to the pair."""
        truths = []
        pair = self
        while pair.before is not None:
            truths.append(pair.truth)
            pair = pair.before
        return tuple(truths[::-1])


def first_parting(code, other_code):
    """The first code parting of two sound codes with the same heads; None if they go alike."""
    pairs = first_pairs(code, other_code)
    seen = {}
    while pairs:
        new = []
        for pair in pairs:
            if (pair.start[0], pair.rows) not in seen:
                seen[(pair.start[0], pair.rows)] = True
                new.append(pair)
        for pair in new:
            number = pair.start[0]
            row, other = code[3][number][2][pair.rows[0]], other_code[3][number][2][pair.rows[1]]
            if plain_row(row) != plain_row(other):
                return pair.start + (pair.way(),)
        pairs = pairs_behind(code, other_code, new)
    return None


def first_pairs(code, other_code):
    """The pairs of what comes next at the entries."""
    pairs = []
    for number in range(len(code[3])):
        for entry in (False, True):
            if not entry or number == 0:
                rows = (entry_row(code, number, entry), entry_row(other_code, number, entry))
                pairs.append(Pair(0, (number, entry), rows, None, False))
    return pairs


def entry_row(code, number, entry):
    """What comes next at an entry of a body: at row 0, or for True at the row of the end phase."""
    rows = code[3][number][2]
    at = 0
    if entry:
        at = rows.index(PHASE_END)
    return goal_of(rows, at)


def pairs_behind(code, other_code, pairs):
    """The pairs behind others, whose instructions are the same but for the rows that they name; the least way first.

    Those of one way stand side by side, and stay in their sequence.
    """
    found = []
    first = 0
    while first < len(pairs):
        end = first
        while end < len(pairs) and pairs[end].group == pairs[first].group:
            end += 1
        for truth in (False, True):
            group = len(found)
            for pair in pairs[first:end]:
                rows = code[3][pair.start[0]][2]
                other_rows = other_code[3][pair.start[0]][2]
                going = row_behind(rows, pair.rows[0], truth)
                if going is not None:
                    both = (going, row_behind(other_rows, pair.rows[1], truth))
                    found.append(Pair(group, pair.start, both, pair, truth))
        first = end
    return found


def row_behind(rows, at, truth):
    """What comes next behind a row, as a truth of a way tells; None if it cannot be left so."""
    row = rows[at]
    if row[0] in ENDING or truth and row[0] not in CHOOSING and row[0] != "next" or not truth and row[0] == "next":
        return None
    if truth:
        return goal_of(rows, named_row(row))
    return goal_of(rows, at + 1)


def is_code_parting(code, other_code, value):
    """Whether any value is a code parting of two codes."""
    check_two(code, other_code)
    if type(value) is not tuple or len(value) != 3 or type(value[0]) is not int or type(value[1]) is not bool:
        return False
    number, entry, way = value
    if type(way) is not tuple or [truth for truth in way if type(truth) is not bool] != []:
        return False
    if not has_same_heads(code, other_code) or not 0 <= number < len(code[3]) or entry and number > 0:
        return False
    row = last_row(code, number, entry, way)
    other = last_row(other_code, number, entry, way)
    return row is not None and other is not None and plain_row(row) != plain_row(other)


def last_row(code, number, entry, way):
    """The instruction at the end of a way of a body; None if the body has no such way."""
    rows = code[3][number][2]
    at = entry_row(code, number, entry)
    for truth in way:
        at = row_behind(rows, at, truth)
        if at is None:
            return None
    return rows[at]


def least_code(code):
    """The least code of a code."""
    return with_least_rows(code, checked_shapes(code))


def with_least_rows(code, shapes):
    """The least code of a sound code with these shapes."""
    bodies = [body[:2] + (laid_out(body, own),) for body, own in zip(code[3], shapes)]
    return code[:3] + (tuple(bodies),)
