"""Acceptors: deriving, comparing, counting and parting what patterns take."""

from patterndeeds.automata import Automaton
from patterndeeds.blocks import blocks_of, classes_of, come_to, explored, first_text, first_texts, least_acceptor
from patterndeeds.patternsigns import SIGNS
from patterndeeds.searching import is_taken
from patterndeeds.signs import is_text
from patterndeeds.ways import HoldingWay, StretchWay

LONGEST = 40
STANDINGS = ((True, True), (True, False), (False, True), (False, False))


def whole_acceptor(pattern):
    """The least acceptor of the texts that a pattern takes whole."""
    return least_acceptor(StretchWay(Automaton(pattern), True, True))


def holding_acceptor(pattern):
    """The least acceptor of the texts in which a pattern holds."""
    return least_acceptor(HoldingWay(Automaton(pattern)))


def is_least(value):
    """Whether any value is a least acceptor."""
    if type(value) is not tuple or len(value) != 3:
        return False
    blocks, rows, ends = value
    if not are_blocks(blocks) or not are_rows(rows, ends, len(blocks)):
        return False
    columns = [tuple([row[at] for row in rows]) for at in range(len(blocks))]
    if len(set(columns)) < len(columns):
        return False
    if come_to(rows, 0) != list(range(len(rows))):
        return False
    return len(set(classes_of(rows, ends))) == len(rows)


def are_blocks(value):
    """Whether any value is a list of ascending strings that have each sign once, ordered by their first ones."""
    if type(value) is not list:
        return False
    for block in value:
        if not is_text(block) or block == "" or "".join(sorted(set(block))) != block:
            return False
    return sorted(value) == value and sorted("".join(value)) == list(SIGNS)


def are_rows(rows, ends, width):
    """Whether any two values are the rows, each of this width, and the ends of an acceptor."""
    if type(rows) is not list or type(ends) is not list or len(rows) != len(ends) or rows == []:
        return False
    for row, end in zip(rows, ends):
        if type(end) is not bool or type(row) is not tuple or len(row) != width:
            return False
        for state in row:
            if type(state) is not int or not 0 <= state < len(rows):
                return False
    return True


def state_after(acceptor, text):
    """The state to which an acceptor comes by a text."""
    blocks, rows, _ = acceptor
    numbers = {sign: at for at, block in enumerate(blocks) for sign in block}
    state = 0
    for sign in text:
        state = rows[state][numbers[sign]]
    return state


def accepts(acceptor, text):
    """Whether an acceptor accepts a text."""
    return acceptor[2][state_after(acceptor, text)]


def parting_end(acceptor, state, other_state):
    """The first text by length that is accepted from just one of two states; None if there is none."""
    blocks, rows, ends = acceptor
    queue = [(state, other_state)]
    seen = {(state, other_state): ""}
    done = 0
    while done < len(queue):
        pair = queue[done]
        done += 1
        if ends[pair[0]] != ends[pair[1]]:
            return seen[pair]
        for at, block in enumerate(blocks):
            going = (rows[pair[0]][at], rows[pair[1]][at])
            if going not in seen:
                seen[going] = seen[pair] + block[0]
                queue.append(going)
    return None


def alike(pattern, other_pattern):
    """Whether two patterns take the same stretches in each text."""
    return parting(pattern, other_pattern) is None


def parting(pattern, other_pattern):
    """A parting of two patterns whose stretch has the fewest signs; None if they are alike."""
    automaton = Automaton(pattern)
    other = Automaton(other_pattern)
    blocks = blocks_of([automaton, other])
    best = None
    for at_beginning, at_end in STANDINGS:
        ways = [StretchWay(automaton, at_beginning, at_end), StretchWay(other, at_beginning, at_end)]
        signs = first_text(ways, blocks, [(True, False), (False, True)])
        if signs is not None and (best is None or len(signs) < best[2] - best[1]):
            start = int(not at_beginning)
            text = " " * start + signs + " " * int(not at_end)
            best = (text, start, start + len(signs))
    return best


def is_parting(pattern, other_pattern, value):
    """Whether any value is a parting of two patterns."""
    if type(value) is not tuple or len(value) != 3 or not is_text(value[0]):
        return False
    text, start, end = value
    if type(start) is not int or type(end) is not int or not 0 <= start <= end <= len(text):
        return False
    one = is_taken(Automaton(pattern), text, start, end)
    return one != is_taken(Automaton(other_pattern), text, start, end)


def within(pattern, other_pattern):
    """The first text by length that a pattern takes whole and another one does not; None without one."""
    automata = [Automaton(pattern), Automaton(other_pattern)]
    ways = [StretchWay(automaton, True, True) for automaton in automata]
    return first_text(ways, blocks_of(automata), [(True, False)])


def fitting(patterns, others):
    """The first text by length in which each of some patterns holds and none of the others."""
    automata = [Automaton(pattern) for pattern in patterns + others]
    ways = [HoldingWay(automaton) for automaton in automata]
    return first_text(ways, blocks_of(automata), [tuple([True] * len(patterns) + [False] * len(others))])


def groups(patterns):
    """The ascending list of tuples (flags, text): which patterns hold, and the first such text by length."""
    automata = [Automaton(pattern) for pattern in patterns]
    texts = first_texts([HoldingWay(automaton) for automaton in automata], blocks_of(automata), None)
    return [(flags, texts[flags]) for flags in sorted(texts)]


class Counts:
    """How many texts of each length a pattern takes whole, from each state of a table."""

    def __init__(self, pattern):
        way = StretchWay(Automaton(pattern), True, True)
        blocks = blocks_of([way.automaton])
        self.rows, ends = explored(way, blocks)
        self.blocks = [signs for signs, _ in blocks]
        self.numbers = {sign: at for at, block in enumerate(self.blocks) for sign in block}
        self.table = [[int(end) for end in ends]]

    def from_state(self, length, state):
        """How many texts of a length are taken from a state."""
        while len(self.table) <= length:
            counts = self.table[-1]
            self.table.append([self.row_count(row, counts) for row in self.rows])
        return self.table[length][state]

    def row_count(self, row, counts):
        """How many texts are taken behind a row, so many behind each state."""
        many = 0
        for block, state in zip(self.blocks, row):
            many += len(block) * counts[state]
        return many


def count_whole(pattern, length):
    """How many texts of a length a pattern takes whole."""
    return Counts(pattern).from_state(length, 0)


def nth_whole(pattern, number):
    """Of the texts that a pattern takes whole, by length, the one with so many ahead of it, or None."""
    counts = Counts(pattern)
    length = 0
    while length <= LONGEST and counts.from_state(length, 0) <= number:
        number -= counts.from_state(length, 0)
        length += 1
    if length > LONGEST:
        return None
    text = ""
    state = 0
    while len(text) < length:
        for sign in SIGNS:
            going = counts.rows[state][counts.numbers[sign]]
            many = counts.from_state(length - len(text) - 1, going)
            if number < many:
                break
            number -= many
        text += sign
        state = going
    return text


def number_whole(pattern, text):
    """How many of the texts that a pattern takes whole are ahead of this one; None if it is none."""
    counts = Counts(pattern)
    number = sum([counts.from_state(length, 0) for length in range(len(text))])
    state = 0
    for at, sign in enumerate(text):
        row = counts.rows[state]
        left = len(text) - at - 1
        for block, going in zip(counts.blocks, row):
            number += len([one for one in block if one < sign]) * counts.from_state(left, going)
        state = row[counts.numbers[sign]]
    if counts.from_state(0, state) == 0:
        return None
    return number
