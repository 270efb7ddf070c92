"""The levels of expressions, the lowest first, and what each operator is and wants."""

ANY = 0
CHOICE = 1
EITHER = 2
BOTH = 3
INSIDE = 4
MATCHED = 5
COMPARED = 6
READ = 7
FILE_READ = 8
PIPE = 9
JOINED = 10
SUM = 11
PRODUCT = 12
SIGNED = 13
POWER = 14
STEP = 15
FIELD_PART = 16
ATOM = 17
TARGET = 18

LEVELS = {
    "number": ATOM, "text": ATOM, "pattern": ATOM, "name": TARGET, "element": TARGET, "field": TARGET,
    "set": ANY, "change": ANY, "choose": CHOICE, "or": EITHER, "and": BOTH, "in": INSIDE, "match": MATCHED,
    "compare": COMPARED, "join": JOINED, "not": SIGNED, "minus": SIGNED, "plus": SIGNED, "call": ATOM,
    "built": ATOM,
}
# For each operator between two parts: its level, and what it wants at its left and at its right.
INFIX = {
    "||": (EITHER, EITHER, BOTH),
    "&&": (BOTH, BOTH, INSIDE),
    "~": (MATCHED, COMPARED, COMPARED),
    "!~": (MATCHED, COMPARED, COMPARED),
    "<": (COMPARED, READ, READ),
    "<=": (COMPARED, READ, READ),
    "==": (COMPARED, READ, READ),
    "!=": (COMPARED, READ, READ),
    ">": (COMPARED, READ, READ),
    ">=": (COMPARED, READ, READ),
    "+": (SUM, SUM, PRODUCT),
    "-": (SUM, SUM, PRODUCT),
    "*": (PRODUCT, PRODUCT, SIGNED),
    "/": (PRODUCT, PRODUCT, SIGNED),
    "@": (PRODUCT, PRODUCT, SIGNED),
    "^": (POWER, STEP, SIGNED),
}
READS = {"main": READ, "<": FILE_READ, "|": PIPE}


def level_of(tree):
    """The level of an expression that stands without brackets."""
    tag = tree[0]
    if tag == "op":
        return INFIX[tree[1]][0]
    if tag == "getline":
        return READS[tree[1]]
    if tag == "step":
        if tree[3]:
            return FIELD_PART
        return STEP
    return LEVELS[tag]
