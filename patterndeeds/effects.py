"""Effects: what instructions take from a stack and give to it, and which rows follow them.

Stacks are tuples of the words "value", "array" and "walk".
"""

ONE = ("value",)
WALK = ("walk",)
VALUES = ((), ("value",), ("value", "value"), ("value", "value", "value"))
# Behind these the next row follows, and they always do the same to the stack: how many values have to
# be on top, how many of them are taken off, and what is put there then.
STRAIGHT = {
    "constant": (0, 0, ONE), "name": (0, 0, ONE), "local": (0, 0, ONE), "range": (0, 0, ONE), "size": (0, 0, ONE),
    "field": (1, 0, ()), "element": (1, 0, ()), "is_in": (1, 0, ()), "minus": (1, 0, ()), "plus": (1, 0, ()),
    "not": (1, 0, ()), "close": (1, 0, ()), "set_name": (1, 0, ()), "set_local": (1, 0, ()), "set_field": (2, 1, ()),
    "set_element": (2, 1, ()), "copy": (1, 0, ONE), "op": (2, 1, ()), "compare": (2, 1, ()), "compare_as": (2, 1, ()),
    "join": (2, 1, ()), "match": (2, 1, ()), "substitute": (3, 1, ()), "tick": (0, 0, ()), "set_range": (0, 0, ()),
    "clear": (0, 0, ()), "delete": (1, 1, ()), "phase": (0, 0, ()), "array": (0, 0, ("array",)), "walk": (0, 0, WALK),
}
# How many things other instructions take, if that is always the same.
TAKES = {"drop": 1, "jump": 0, "jump_if": 1, "next_key": 1, "return": 1, "record": 0, "next": 0, "halt": 0}
# Where an instruction tells how many things it takes.
COUNTED = {"key": 1, "turn": 1, "built": 2, "split": 2, "print": 1, "printf": 1, "call": 2}
# These take a name, too, unless they write to the output without a name.
WRITING = ("print", "printf")
# Where an instruction names a row.
NAMED = {"jump": 1, "jump_if": 2, "next_key": 1, "record": 1, "next": 1}
# Behind these the next row does not follow.
GOING = ("jump", "next")
ENDING = ("return", "exit", "halt")
PHASE_END = ("phase", "end")


def many_taken(row):
    """How many things an instruction takes."""
    word = row[0]
    if word in STRAIGHT:
        return STRAIGHT[word][0]
    if word in TAKES:
        return TAKES[word]
    if word == "read":
        return 0 if row[1] == "main" else 1
    if word == "exit":
        return 1 if row[1] else 0
    many = row[COUNTED[word]]
    if word in WRITING and row[2] != "":
        return many + 1
    return many


def has_values(stack, many):
    """Whether a stack has so many values on top."""
    return many <= len(stack) and stack[len(stack) - many:].count("value") == many


# Each of the functions that follow has an instruction behind which just the next row follows, the stack
# ahead of it and the params of the functions of the code. It returns the stack behind it; None if the
# stack ahead has not on top what the instruction takes.


def after_drop(row, stack, heads):
    if stack == () or stack[-1] == "array":
        return None
    return stack[:-1]


def after_call(row, stack, heads):
    # A base below 0 leaves fewer things than the call takes.
    base = len(stack) - row[2]
    if stack[base:] != heads[row[1]][:row[2]]:
        return None
    return stack[:base] + ONE


def after_turn(row, stack, heads):
    return stack if has_values(stack, row[1]) else None


def after_values(row, stack, heads):
    many = many_taken(row)
    return stack[:len(stack) - many] + ONE if has_values(stack, many) else None


def after_writing(row, stack, heads):
    many = many_taken(row)
    return stack[:len(stack) - many] if has_values(stack, many) else None


def after_read(row, stack, heads):
    many = many_taken(row)
    if not has_values(stack, many):
        return None
    return stack[:len(stack) - many] + (VALUES[2] if row[2] == "value" else ONE)


AFTER = {
    "drop": after_drop, "call": after_call, "turn": after_turn, "key": after_values, "built": after_values,
    "split": after_values, "print": after_writing, "printf": after_writing, "read": after_read,
}


# Each of these has an instruction behind which not just the next row follows, and the stack ahead of it.
# It returns the stack at the next row and that at the row that the instruction names, each None if that
# row does not follow; None instead of both as above.


def behind_jump(row, stack):
    return None, stack


def behind_jump_if(row, stack):
    return (stack[:-1], stack[:-1]) if stack[-1:] == ONE else None


def behind_next_key(row, stack):
    return (stack + ONE, stack[:-1]) if stack[-1:] == WALK else None


def behind_record(row, stack):
    return stack, stack


def behind_next(row, stack):
    return None, ()


def behind_return(row, stack):
    return (None, None) if stack[-1:] == ONE else None


def behind_exit(row, stack):
    return (None, None) if not row[1] or stack[-1:] == ONE else None


def behind_halt(row, stack):
    return None, None


BEHIND = {
    "jump": behind_jump, "jump_if": behind_jump_if, "next_key": behind_next_key, "record": behind_record,
    "next": behind_next, "return": behind_return, "exit": behind_exit, "halt": behind_halt,
}


def stacks_behind(rows, at, stack, heads):
    """The followers of a row, each with the stack there; None if the row lacks something."""
    row = rows[at]
    word = row[0]
    if word in BEHIND:
        find_behind = BEHIND[word]
        behind = find_behind(row, stack)
    elif word in AFTER:
        find_after = AFTER[word]
        after = find_after(row, stack, heads)
        behind = None if after is None else (after, None)
    else:
        many, taken, given = STRAIGHT[word]
        behind = (stack[:len(stack) - taken] + given, None) if has_values(stack, many) else None
    if behind is None:
        return None
    pairs = [(at + 1, behind[0]), (named_row(row), behind[1])]
    return [(following, there) for following, there in pairs if there is not None]


def named_row(row):
    """The row that an instruction names; None if it names none."""
    if row[0] in NAMED:
        return row[NAMED[row[0]]]
    return None


def with_named(row, number):
    """An instruction that names a row with another row instead."""
    at = NAMED[row[0]]
    return row[:at] + (number,) + row[at + 1:]


def followers(rows, at):
    """The followers of a row, each with whether the row goes there because it names it."""
    row = rows[at]
    if row[0] in ENDING:
        return []
    named = named_row(row)
    if named is None:
        return [(at + 1, False)]
    if row[0] in GOING:
        return [(named, True)]
    return [(at + 1, False), (named, True)]


def entries_of(body):
    """The entries of a body."""
    if body[0] != "":
        return [0]
    return sorted({0, body[2].index(PHASE_END)})


def heads_of(code):
    """The params of the functions of a code, by their names."""
    return {body[0]: body[1] for body in code[3]}
