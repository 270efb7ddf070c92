"""The shapes of trees: which parts each kind of tree has, by their indexes."""

LENGTHS = {
    "number": 3, "text": 2, "pattern": 2, "name": 2, "element": 3, "field": 2, "set": 3, "change": 4, "step": 4,
    "choose": 4, "or": 3, "and": 3, "in": 3, "match": 4, "compare": 4, "join": 3, "op": 4, "not": 2, "minus": 2,
    "plus": 2, "call": 3, "built": 3, "getline": 4,
}
# The parts of an expression that are expressions, but those that may be None.
SINGLES = {
    "number": (), "text": (), "pattern": (), "name": (), "element": (), "field": (1,), "set": (1, 2),
    "change": (2, 3), "step": (1,), "choose": (1, 2, 3), "or": (1, 2), "and": (1, 2), "in": (), "match": (1, 2),
    "compare": (2, 3), "join": (1, 2), "op": (2, 3), "not": (1,), "minus": (1,), "plus": (1,), "call": (),
    "built": (), "getline": (),
}
# The part of an expression that is a row of expressions.
ROWS = {"element": 2, "in": 1, "call": 2, "built": 2}
STATEMENT_LENGTHS = {
    "expr": 2, "print": 3, "printf": 3, "if": 4, "while": 3, "do": 3, "for": 5, "walk": 4, "break": 1, "continue": 1,
    "next": 1, "exit": 2, "return": 2, "delete": 3,
}
RULE_LENGTHS = {"begin": 2, "end": 2, "always": 2, "when": 3, "range": 4}
# The parts of a statement or a rule that are an expression, perhaps None.
TESTS = {
    "expr": (1,), "if": (1,), "while": (1,), "do": (2,), "for": (2,), "exit": (1,), "return": (1,), "when": (1,),
    "range": (1, 2),
}
# The parts of a statement or a rule that are bodies, perhaps None.
BODIES = {
    "if": (2, 3), "while": (2,), "do": (1,), "for": (1, 3, 4), "walk": (3,), "begin": (1,), "end": (1,), "always": (1,),
    "when": (2,), "range": (3,),
}
TARGETS = ("name", "element", "field")
# Where in a tree a name stands.
NAMES = {"name": (1,), "element": (1,), "in": (2,), "call": (1,), "walk": (1, 2), "delete": (1,)}


def bodies_of(tree):
    """The list of the bodies in a statement or a rule itself."""
    if tree[0] not in BODIES:
        return []
    return [tree[at] for at in BODIES[tree[0]] if tree[at] is not None]


def expressions_in(tree):
    """The list of the expressions that are the parts of a statement or a rule."""
    tag = tree[0]
    if tag == "print" or tag == "printf":
        trees = list(tree[1])
        if tree[2] is not None:
            trees.append(tree[2][1])
        return trees
    if tag == "delete":
        return list(tree[2] or ())
    if tag not in TESTS:
        return []
    return [tree[at] for at in TESTS[tag] if tree[at] is not None]


def parts_of(tree):
    """The list of the expressions that are the parts of an expression."""
    tag = tree[0]
    if tag in ROWS:
        return list(tree[ROWS[tag]])
    if tag == "getline":
        return [part for part in tree[2:] if part is not None]
    return [tree[at] for at in SINGLES[tag]]


def statements_of(bodies):
    """The list of all statements in some bodies, in the sequence of their places."""
    found = []
    waiting = []
    for body in bodies[::-1]:
        waiting.extend(body[::-1])
    while waiting:
        statement = waiting.pop()
        found.append(statement)
        for body in bodies_of(statement)[::-1]:
            waiting.extend(body[::-1])
    return found


def with_names(tree, names):
    """A tree, or a tuple of trees, in which each name that a dict has is replaced everywhere."""
    if tree == ():
        return tree
    tag = tree[0]
    if type(tag) is str and tag in NAMES:
        spots = NAMES[tag]
        row = [renamed_part(part, names, at in spots) for at, part in enumerate(tree)]
        return tuple(row)
    return tuple([with_names(part, names) if type(part) is tuple else part for part in tree])


def renamed_part(part, names, is_name):
    """A part of a tree with other names; perhaps the part is a name itself."""
    if is_name:
        return names.get(part, part)
    if type(part) is tuple:
        return with_names(part, names)
    return part


def names_in(tree, found):
    """Puts the names of a tree, or of a tuple of trees, behind others, as the printed text has them."""
    if tree == ():
        return
    tag = tree[0]
    spots = ()
    if type(tag) is str:
        spots = NAMES.get(tag, ())
        if tag == "getline" and tree[1] == "<" and tree[3] is not None:
            # The name of the input is printed last.
            names_in(tree[3], found)
            names_in(tree[2], found)
            return
    for at, part in enumerate(tree):
        if at in spots:
            found.append(part)
        elif type(part) is tuple:
            names_in(part, found)
