"""Effects: what instructions take from a stack and give to it, and which rows follow them.

Stacks are tuples of the words "value", "array" and "walk".
"""

# How many values an instruction takes and gives, if it names no row and nothing else has to be known.
PLAIN = {
    "constant": (0, 1), "name": (0, 1), "local": (0, 1), "range": (0, 1), "size": (0, 1), "field": (1, 1),
    "element": (1, 1), "is_in": (1, 1), "minus": (1, 1), "plus": (1, 1), "not": (1, 1), "close": (1, 1),
    "set_name": (1, 1), "set_local": (1, 1), "set_field": (2, 1), "set_element": (2, 1), "copy": (1, 2), "op": (2, 1),
    "compare": (2, 1), "compare_as": (2, 1), "join": (2, 1), "match": (2, 1), "substitute": (3, 2), "tick": (0, 0),
    "set_range": (0, 0), "clear": (0, 0), "delete": (1, 0), "phase": (0, 0),
}
VALUES = ((), ("value",), ("value", "value"), ("value", "value", "value"))
# How many things other instructions take, if that is always the same.
TAKES = {
    "array": 0, "drop": 1, "jump": 0, "jump_if": 1, "walk": 0, "next_key": 1, "return": 1, "record": 0, "next": 0,
    "halt": 0,
}
# Where an instruction tells how many things it takes.
COUNTED = {"key": 1, "turn": 1, "built": 2, "split": 2, "print": 1, "printf": 1, "call": 2}
# These take a name, too, unless they write to the output without a name.
WRITING = ("print", "printf")
# These give one value, whatever they take.
GIVING_ONE = ("key", "built", "split", "call", "next_key")
# Where an instruction names a row.
NAMED = {"jump": 1, "jump_if": 2, "next_key": 1, "record": 1, "next": 1}
# Behind these the next row does not follow.
GOING = ("jump", "next")
ENDING = ("return", "exit", "halt")
PHASE_END = ("phase", "end")


def many_taken(row):
    """How many things an instruction takes."""
    word = row[0]
    if word in PLAIN:
        return PLAIN[word][0]
    if word in TAKES:
        return TAKES[word]
    if word == "read":
        return 0 if row[1] == "main" else 1
    if word == "exit":
        return 1 if row[1] else 0
    many = row[COUNTED[word]]
    if word in WRITING and row[2] != "":
        return many + 1
    return many


def many_given(row):
    """How many values an instruction gives; one that names a row, where it does not go there."""
    word = row[0]
    if word in PLAIN:
        return PLAIN[word][1]
    if word in GIVING_ONE:
        return 1
    if word == "turn":
        return row[1]
    if word == "read":
        return 2 if row[2] == "value" else 1
    return 0


def has_taken(stack, row, heads):
    """Whether a stack has on top what an instruction takes; heads has the params of the functions."""
    many = many_taken(row)
    if many == 0:
        return True
    if many > len(stack):
        return False
    word = row[0]
    if word == "next_key":
        return stack[-1] == "walk"
    if word == "drop":
        return stack[-1] != "array"
    if word == "call":
        return stack[-many:] == heads[row[1]][:many]
    if many == 1:
        return stack[-1] == "value"
    return stack[-many:].count("value") == many


def stack_behind(stack, row, goes):
    """The stack behind an instruction; goes tells whether it goes to the row that it names."""
    word = row[0]
    if word == "next":
        return ()
    if word == "next_key":
        if goes:
            return stack[:-1]
        return stack + ("value",)
    many = many_taken(row)
    if many > 0:
        stack = stack[:-many]
    if word == "array" or word == "walk":
        return stack + (word,)
    return stack + ("value",) * many_given(row)


def named_row(row):
    """The row that an instruction names; None if it names none."""
    if row[0] in NAMED:
        return row[NAMED[row[0]]]
    return None


def with_named(row, number):
    """An instruction that names a row with another row instead."""
    at = NAMED[row[0]]
    return row[:at] + (number,) + row[at + 1:]


def followers(rows, at):
    """The followers of a row, each with whether the row goes there because it names it."""
    row = rows[at]
    if row[0] in ENDING:
        return []
    named = named_row(row)
    if named is None:
        return [(at + 1, False)]
    if row[0] in GOING:
        return [(named, True)]
    return [(at + 1, False), (named, True)]


def stacks_behind(rows, at, stack, heads):
    """The followers of a row, each with the stack there; None if the row lacks something."""
    row = rows[at]
    if row[0] not in PLAIN:
        if not has_taken(stack, row, heads):
            return None
        return [(following, stack_behind(stack, row, goes)) for following, goes in followers(rows, at)]
    taken, given = PLAIN[row[0]]
    if taken > 0:
        if stack[-taken:] != VALUES[taken]:
            return None
        stack = stack[:-taken]
    return [(at + 1, stack + VALUES[given])]


def entries_of(body):
    """The entries of a body."""
    if body[0] != "":
        return [0]
    return sorted({0, body[2].index(PHASE_END)})


def heads_of(code):
    """The params of the functions of a code, by their names."""
    return {body[0]: body[1] for body in code[3]}
