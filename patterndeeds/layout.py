"""How expressions are written: their parts in sequence, and the brackets around them."""

from patterndeeds.decimals import decimal_text
from patterndeeds.levels import (
    ANY, ATOM, CHOICE, COMPARED, EITHER, FIELD_PART, FILE_READ, INFIX, INSIDE, JOINED, PIPE, SIGNED, SUM, TARGET,
    level_of,
)
from patterndeeds.words import written

# Signs with which the right part of a join may not begin.
BARRED = {"!": True, "+": True, "-": True, "/": True}
UNARY = {"not": "!", "minus": "-", "plus": "+"}
LOGICAL = {"or": "||", "and": "&&"}


class Part:
    """An expression at its place: what the grammar wants there, and what stands around it.

    bare tells whether it stands in the list of a print without a bracket around; joined, whether
    it is the right part of a join.
    """

    def __init__(self, tree, want, bare, joined):
        self.tree = tree
        self.want = want
        self.bare = bare
        self.joined = joined


def expression_row(tree, want, bare):
    """The written form of an expression at a place that wants a level."""
    signs = []
    waiting = [Part(tree, want, bare, False)]
    while waiting:
        piece = waiting.pop()
        if type(piece) is str:
            signs.append(piece)
        elif has_brackets(piece):
            waiting.append(")")
            waiting.extend(layout(piece.tree, False)[::-1])
            waiting.append("(")
        else:
            waiting.extend(layout(piece.tree, piece.bare)[::-1])
    return "".join(signs)


def has_brackets(part):
    """Whether brackets stand around a part."""
    tree = part.tree
    if level_of(tree) < part.want:
        return True
    if part.joined and first_sign(tree) in BARRED:
        return True
    # Of a row of getlines of kind | the last one gets its brackets here, so no other one is bare.
    if tree[0] == "compare":
        return part.bare and tree[1] == ">"
    return part.bare and tree[0] == "getline" and tree[1] == "|"


def first_sign(tree):
    """The first sign of an expression from the sums on; a letter for all that bars nothing."""
    while tree[0] == "op":
        if level_of(tree[2]) < INFIX[tree[1]][1]:
            return "("
        tree = tree[2]
    if tree[0] in UNARY:
        return UNARY[tree[0]]
    if tree[0] == "step" and tree[3]:
        return step_sign(tree)[0]
    if tree[0] == "pattern":
        return "/"
    return "x"


def step_sign(tree):
    """The symbol of a step."""
    if tree[2] == 1:
        return "++"
    return "--"


def layout(tree, bare):
    """The strings and parts of which the written form of an expression consists."""
    tag = tree[0]
    if tag == "number":
        return [decimal_text(tree[1], tree[2])]
    if tag == "text" or tag == "pattern":
        return [written(tree)]
    if tag == "name":
        return [tree[1]]
    if tag == "field":
        return ["$", Part(tree[1], FIELD_PART, bare, False)]
    if tag == "step":
        return step_layout(tree, bare)
    if tag in UNARY:
        return unary_layout(tree, bare)
    if tag == "element":
        return [tree[1] + "["] + row_layout(tree[2]) + ["]"]
    if tag == "call" or tag == "built":
        return [tree[1] + "("] + row_layout(tree[2]) + [")"]
    if tag == "in":
        return in_layout(tree, bare)
    if tag == "getline":
        return getline_layout(tree, bare)
    return infix_layout(tree, bare)


def infix_layout(tree, bare):
    """The pieces of an expression with signs between its parts."""
    tag = tree[0]
    if tag == "set":
        return two_parts(tree[1], TARGET, " = ", tree[2], ANY, bare)
    if tag == "change":
        return two_parts(tree[2], TARGET, " " + tree[1] + "= ", tree[3], ANY, bare)
    if tag == "choose":
        pieces = two_parts(tree[1], EITHER, " ? ", tree[2], ANY, bare)
        return pieces + [" : ", Part(tree[3], CHOICE, bare, False)]
    if tag == "join":
        return [Part(tree[1], JOINED, bare, False), " ", Part(tree[2], SUM, bare, True)]
    if tag == "match":
        if tree[3]:
            return two_parts(tree[1], COMPARED, " !~ ", tree[2], COMPARED, bare)
        return two_parts(tree[1], COMPARED, " ~ ", tree[2], COMPARED, bare)
    if tag in LOGICAL:
        sign = LOGICAL[tag]
        left, right = tree[1:]
    else:
        sign, left, right = tree[1:]
    _, want, behind = INFIX[sign]
    if sign == "<":
        want = FILE_READ
    return two_parts(left, want, " " + sign + " ", right, behind, bare)


def two_parts(left, want, sign, right, behind, bare):
    """The pieces of two parts with a sign between."""
    return [Part(left, want, bare, False), sign, Part(right, behind, bare, False)]


def row_layout(trees):
    """The pieces of a list of expressions within brackets."""
    pieces = []
    for tree in trees:
        if pieces:
            pieces.append(", ")
        pieces.append(Part(tree, ANY, False, False))
    return pieces


def step_layout(tree, bare):
    """The pieces of a step."""
    target = Part(tree[1], TARGET, bare, False)
    if tree[3]:
        return [step_sign(tree), target]
    return [target, step_sign(tree)]


def unary_layout(tree, bare):
    """The pieces of a sign and its part; two signs of a kind are kept from becoming one."""
    sign = UNARY[tree[0]]
    part = Part(tree[1], SIGNED, bare, False)
    if sign != "!" and level_of(tree[1]) >= SIGNED and first_sign(tree[1]) == sign:
        return [sign + " ", part]
    return [sign, part]


def in_layout(tree, bare):
    """The pieces of a test whether an array has an entry."""
    keys = tree[1]
    if len(keys) == 1:
        return [Part(keys[0], INSIDE, bare, False), " in " + tree[2]]
    return ["("] + row_layout(keys) + [") in " + tree[2]]


def getline_layout(tree, bare):
    """The pieces of a getline."""
    _, kind, origin, target = tree
    pieces = ["getline"]
    if target is not None:
        pieces = pieces + [" ", Part(target, TARGET, bare, False)]
    if kind == "<":
        return pieces + [" < ", Part(origin, ATOM, bare, False)]
    if kind == "|":
        return [Part(origin, PIPE, bare, False), " | "] + pieces
    return pieces
