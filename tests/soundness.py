"""Whether a code is sound, by following its ways as the document tells them."""

# What each instruction takes and gives, as words; numbers stand for so many values.
EFFECTS = {
    "constant": (0, 1), "name": (0, 1), "local": (0, 1), "range": (0, 1), "field": (1, 1), "element": (1, 1),
    "is_in": (1, 1), "minus": (1, 1), "plus": (1, 1), "not": (1, 1), "close": (1, 1), "size": (0, 1),
    "set_name": (1, 1), "set_local": (1, 1), "set_field": (2, 1), "set_element": (2, 1), "copy": (1, 2), "op": (2, 1),
    "compare": (2, 1), "compare_as": (2, 1), "join": (2, 1), "match": (2, 1), "substitute": (3, 2), "tick": (0, 0),
    "set_range": (0, 0), "clear": (0, 0), "delete": (1, 0), "jump": (0, 0), "jump_if": (1, 0), "return": (1, 0),
    "record": (0, 0), "phase": (0, 0), "halt": (0, 0), "next": (0, 0),
}
NAMED = {"jump": 1, "jump_if": 2, "next_key": 1, "record": 1, "next": 1}


def taken_and_given(row, heads):
    """The words that an instruction takes and gives."""
    word = row[0]
    if word in EFFECTS:
        return ["value"] * EFFECTS[word][0], ["value"] * EFFECTS[word][1]
    if word in ("key", "turn", "built", "split"):
        many = min(row[2] if word in ("built", "split") else row[1], 10 ** 4)
        return ["value"] * many, ["value"] * (many if word == "turn" else 1)
    if word in ("print", "printf"):
        return ["value"] * (min(row[1], 10 ** 4) + (row[2] != "")), []
    if word == "read":
        return ["value"] * (row[1] != "main"), ["value"] * (1 + (row[2] == "value"))
    if word == "array":
        return [], ["array"]
    if word == "walk":
        return [], ["walk"]
    if word == "exit":
        return ["value"] * row[1], []
    assert word == "call", row
    return list(heads[row[1]][:row[2]]), ["value"]


def followers(rows, at):
    """The followers of a row."""
    row = rows[at]
    if row[0] in ("return", "exit", "halt"):
        return []
    named = [row[NAMED[row[0]]]] if row[0] in NAMED else []
    return named if row[0] in ("jump", "next") else [at + 1] + named


def shapes(code):
    """For each body a dict of the shapes of the rows that are reached; fails if the code is not sound."""
    heads = {name: params for name, params, _ in code[3]}
    found = []
    for name, _, rows in code[3]:
        known = {0: ()}
        if name == "":
            known[rows.index(("phase", "end"))] = ()
        waiting = list(known)
        while waiting:
            at = waiting.pop()
            for going in followers(rows, at):
                shape = after(rows[at], going, list(known[at]), heads)
                assert going < len(rows), ("falls", name, at)
                if going not in known:
                    known[going] = shape
                    waiting.append(going)
                assert known[going] == shape, ("unlike", name, at, going, known[going], shape)
            if not followers(rows, at):
                after(rows[at], None, list(known[at]), heads)
        check_ticks(rows, known)
        found.append(known)
    return found


def after(row, going, stack, heads):
    """The stack behind a row on the way to another one."""
    if row[0] == "drop":
        assert stack and stack.pop() in ("value", "walk"), "lacks"
        return tuple(stack)
    if row[0] == "next_key":
        assert stack and stack[-1] == "walk", "lacks"
        return tuple(stack[:-1]) if going == row[1] else tuple(stack) + ("value",)
    taken, given = taken_and_given(row, heads)
    assert stack[len(stack) - len(taken):] == taken and len(stack) >= len(taken), ("lacks", row, stack)
    return () if row[0] == "next" else tuple(stack[:len(stack) - len(taken)] + given)


def check_ticks(rows, known):
    """Fails if rows that are reached lead back to themselves without a tick."""
    reach = {at: {going for going in followers(rows, at) if rows[going][0] != "tick"} for at in known
             if rows[at][0] != "tick"}
    for start in reach:
        seen, waiting = set(), list(reach[start])
        while waiting:
            at = waiting.pop()
            if at not in seen:
                seen.add(at)
                waiting.extend(reach.get(at, ()))
        assert start not in seen, ("tickless", start)
