"""Blocks: signs that the positions of some automata do not part."""

from patterndeeds.patternsigns import SIGNS


def blocks_of(automata):
    """The list of tuples (signs, masks) of the signs that none of some automata parts.

    masks has for each automaton the mask of the positions that take the signs. Blocks are ordered by
    their first signs.
    """
    table = {}
    for sign in SIGNS:
        masks = tuple([automaton.standing_for(sign) for automaton in automata])
        table.setdefault(masks, []).append(sign)
    return [("".join(table[masks]), masks) for masks in table]


def first_texts(ways, blocks, wanted):
    """A dict of the first texts by length for which ways that read them at once accept or do not.

    Its keys are tuples of True and False, one for each way. If wanted is not None, only texts up to
    the first one whose key stands there are looked at. The blocks are those of the automata.
    """
    states = tuple([way.beginning for way in ways])
    texts = {}
    seen = {states: ""}
    queue = [states]
    done = 0
    while done < len(queue):
        states = queue[done]
        done += 1
        flags = tuple([way.accepting(state) for way, state in zip(ways, states)])
        texts.setdefault(flags, seen[states])
        if wanted is not None and flags in wanted:
            return texts
        for signs, masks in blocks:
            going = tuple([way.going_on(state, mask) for way, state, mask in zip(ways, states, masks)])
            if going not in seen:
                seen[going] = seen[states] + signs[0]
                queue.append(going)
    return texts


def first_text(ways, blocks, wanted):
    """The first text by length for which ways accept or do not as one of some tuples tells, or None."""
    texts = first_texts(ways, blocks, wanted)
    found = [texts[flags] for flags in texts if flags in wanted]
    if found == []:
        return None
    return found[0]


def explored(way, blocks):
    """For each state of a way the list of the states behind each block, and whether it accepts.

    The masks of the blocks that count are the first ones. All states are come to from the first one.
    """
    queue = [way.beginning]
    numbers = {way.beginning: 0}
    rows = []
    while len(rows) < len(queue):
        state = queue[len(rows)]
        row = []
        for _, masks in blocks:
            going = way.going_on(state, masks[0])
            if going not in numbers:
                numbers[going] = len(queue)
                queue.append(going)
            row.append(numbers[going])
        rows.append(row)
    return rows, [way.accepting(state) for state in queue]


def classes_of(rows, ends):
    """The number of the class of each state; those of one class accept the same texts."""
    classes = [int(end) for end in ends]
    many = 0
    while True:
        numbers = {}
        renewed = []
        for state, row in enumerate(rows):
            shape = (classes[state], tuple([classes[going] for going in row]))
            renewed.append(numbers.setdefault(shape, len(numbers)))
        classes = renewed
        if len(numbers) == many:
            return classes
        many = len(numbers)


def least_acceptor(way):
    """The least acceptor of what a way accepts."""
    blocks = blocks_of([way.automaton])
    rows, ends = explored(way, blocks)
    classes = classes_of(rows, ends)
    chosen = {}
    for state, number in enumerate(classes):
        chosen.setdefault(number, state)
    # One row for each class, in the sequence of the numbers.
    rows = [[classes[going] for going in rows[chosen[number]]] for number in range(len(chosen))]
    ends = [ends[chosen[number]] for number in range(len(chosen))]
    blocks, rows = without_like_blocks([signs for signs, _ in blocks], rows)
    order = come_to(rows, classes[0])
    numbers = {number: at for at, number in enumerate(order)}
    return (
        blocks,
        [tuple([numbers[going] for going in rows[number]]) for number in order],
        [ends[number] for number in order],
    )


def without_like_blocks(blocks, rows):
    """Blocks and rows in which blocks that lead to the same states in all rows are one."""
    table = {}
    for at, signs in enumerate(blocks):
        column = tuple([row[at] for row in rows])
        table.setdefault(column, []).append(at)
    found = list(table.values())
    merged = [signs_together(blocks, some) for some in found]
    return merged, [[row[some[0]] for some in found] for row in rows]


def signs_together(blocks, some):
    """The ascending string of the signs of some blocks, told by their indexes."""
    return "".join(sorted("".join([blocks[at] for at in some])))


def come_to(rows, state):
    """The list of the states in the sequence in which they are come to from one, row by row."""
    queue = [state]
    seen = {state: True}
    done = 0
    while done < len(queue):
        row = rows[queue[done]]
        done += 1
        for going in row:
            if going not in seen:
                seen[going] = True
                queue.append(going)
    return queue
