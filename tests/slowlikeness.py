"""Which codes go alike, by the words of the document: the widest relation, and ways one by one."""

import itertools

import soundness

END = ("phase", "end")
NUMBER_OF_NAMED = {"jump": 1, "jump_if": 2, "next_key": 1, "record": 1, "next": 1}
LAST = ("return", "exit", "halt")


def plain(row):
    at = NUMBER_OF_NAMED.get(row[0])
    return row if at is None else row[:at] + (None,) + row[at + 1:]


def comes(rows, at):
    """The first row from here on that is no jump."""
    while rows[at][0] == "jump":
        at = rows[at][1]
    return at


def ahead(rows, at):
    """What comes next: behind the row, and at the row that it names; None for neither."""
    row = rows[at]
    named = row[NUMBER_OF_NAMED[row[0]]] if row[0] in NUMBER_OF_NAMED else None
    return (None if row[0] in LAST + ("next",) else comes(rows, at + 1), None if named is None else comes(rows, named))


def reached(code, number):
    known = soundness.shapes(code)[number]
    return [at for at in known if code[3][number][2][at][0] != "jump"]


def relation(code, number, other, other_number):
    """The pairs of reached rows of two bodies that go alike."""
    rows, other_rows = code[3][number][2], other[3][other_number][2]
    pairs = {(at, other_at) for at in reached(code, number) for other_at in reached(other, other_number)
             if plain(rows[at]) == plain(other_rows[other_at])}
    shrinks = True
    while shrinks:
        left = {(at, other_at) for at, other_at in pairs
                if all(one is None or (one, two) in pairs for one, two in zip(ahead(rows, at), ahead(other_rows,
                        other_at)))}
        shrinks = left != pairs
        pairs = left
    return pairs


def heads(code):
    return code[:3] + ([body[:2] for body in code[3]],)


def entries(code, number):
    """The entries of a body, each with its truth."""
    rows = code[3][number][2]
    return [(False, 0)] + ([(True, rows.index(END))] if number == 0 else [])


def go_alike(code, other):
    if heads(code) != heads(other):
        return False
    for number in range(len(code[3])):
        pairs = relation(code, number, other, number)
        for (_, at), (_, other_at) in zip(entries(code, number), entries(other, number)):
            if (comes(code[3][number][2], at), comes(other[3][number][2], other_at)) not in pairs:
                return False
    return True


def along(rows, at, way):
    """The row to which a way leads; None if there is no such way."""
    at = comes(rows, at)
    for truth in way:
        row = rows[at]
        if row[0] in LAST or row[0] == "next" and not truth:
            return None
        if truth and row[0] not in ("jump_if", "next_key", "record", "next"):
            return None
        at = ahead(rows, at)[1 if truth else 0]
    return at


def is_parting(code, other, number, entry, way):
    if heads(code) != heads(other) or number >= len(code[3]) or entry and number:
        return False
    found = []
    for one in (code, other):
        rows = one[3][number][2]
        at = along(rows, dict(entries(one, number))[entry], way)
        if at is None:
            return False
        found.append(plain(rows[at]))
    return found[0] != found[1]


def partings(code, other, most):
    """The least code parting with the shortest way, of so many truths at most; None if there is none."""
    for many in range(most + 1):
        for way in itertools.product((False, True), repeat=many):
            for number in range(len(code[3])):
                for entry in (False, True):
                    if is_parting(code, other, number, entry, way):
                        return (number, entry, way)
    return None


def least(code):
    """The least code."""
    bodies = []
    for number, (name, params, rows) in enumerate(code[3]):
        known = soundness.shapes(code)[number]
        pairs = relation(code, number, code, number)
        one_of = {at: min(other for at_, other in pairs if at_ == at and known[other] == known[at])
                  for at in reached(code, number)}
        made = []

        def lay(at):
            at = one_of[comes(rows, at)]
            while at not in [one for one, _ in made]:
                made.append((at, rows[at]))
                if ahead(rows, at)[0] is None:
                    return
                at = one_of[ahead(rows, at)[0]]
            made.append((None, ("jump", at)))

        for _, at in entries(code, number):
            if one_of[comes(rows, at)] not in [one for one, _ in made]:
                lay(at)
        while True:
            open_ones = [ahead(rows, at)[1] for at, _ in made if at is not None and ahead(rows, at)[1] is not None
                         and one_of[ahead(rows, at)[1]] not in [one for one, _ in made]]
            if not open_ones:
                break
            lay(open_ones[0])
        places = {at: place for place, (at, _) in enumerate(made)}
        final = []
        for at, row in made:
            if at is None:
                final.append(("jump", places[row[1]]))
            elif row[0] in NUMBER_OF_NAMED:
                named = NUMBER_OF_NAMED[row[0]]
                final.append(row[:named] + (places[one_of[ahead(rows, at)[1]]],) + row[named + 1:])
            else:
                final.append(row)
        bodies.append((name, params, tuple(final)))
    return code[:3] + (tuple(bodies),)


def mixed(code, random, copies):
    """A code that goes alike: its reached rows in blocks of another sequence, some of them several times."""
    bodies = []
    for number, (name, params, rows) in enumerate(code[3]):
        blocks = []
        for at in reached(code, number):
            many = 1 if rows[at] == END else random.randrange(1, copies + 1)
            blocks += [(at, copy) for copy in range(many)]
        random.shuffle(blocks)
        first = [block for block in blocks if block[0] == comes(rows, 0)][0]
        made, starts = [("jump", first)], {}
        for block in blocks:
            starts[block] = len(made)
            behind, named = ahead(rows, block[0])
            row = rows[block[0]]
            if named is not None:
                chosen = random.choice([one for one in blocks if one[0] == named])
                row = row[:NUMBER_OF_NAMED[row[0]]] + (chosen,) + row[NUMBER_OF_NAMED[row[0]] + 1:]
            made.append(row)
            if behind is not None:
                made.append(("jump", random.choice([one for one in blocks if one[0] == behind])))
        final = []
        for row in made:
            if row[0] in NUMBER_OF_NAMED:
                named = NUMBER_OF_NAMED[row[0]]
                row = row[:named] + (starts[row[named]],) + row[named + 1:]
            final.append(row)
        bodies.append((name, params, tuple(final)))
    return code[:3] + (tuple(bodies),)
