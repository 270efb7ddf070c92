"""The shapes of trees: which parts each kind of tree has, and what each part is.

The roles of parts that are no trees: top, bottom, text, pattern, name (a variable), walked (the
variable of a walk), array, called, built, operator, comparer, by, truth, source. Those of parts
that are trees or have trees in them: e (an expression), t (a target), e? and t? (perhaps None), es
(any number of expressions), es1 (at least one), es1? (perhaps None), body, body? (perhaps None),
part (the first and the third part of a for), out (where a print writes to).
"""

EXPRESSIONS = {
    "number": ("top", "bottom"),
    "text": ("text",),
    "pattern": ("pattern",),
    "name": ("name",),
    "element": ("array", "es1"),
    "field": ("e",),
    "set": ("t", "e"),
    "change": ("operator", "t", "e"),
    "step": ("t", "by", "truth"),
    "choose": ("e", "e", "e"),
    "or": ("e", "e"),
    "and": ("e", "e"),
    "in": ("es1", "array"),
    "match": ("e", "e", "truth"),
    "compare": ("comparer", "e", "e"),
    "join": ("e", "e"),
    "op": ("operator", "e", "e"),
    "not": ("e",),
    "minus": ("e",),
    "plus": ("e",),
    "call": ("called", "es"),
    "built": ("built", "es"),
    "getline": ("source", "e?", "t?"),
}
STATEMENTS = {
    "expr": ("e",),
    "print": ("es", "out"),
    "printf": ("es1", "out"),
    "if": ("e", "body", "body"),
    "while": ("e", "body"),
    "do": ("body", "e"),
    "for": ("part", "e?", "part", "body"),
    "walk": ("walked", "array", "body"),
    "break": (),
    "continue": (),
    "next": (),
    "exit": ("e?",),
    "return": ("e?",),
    "delete": ("array", "es1?"),
}
RULES = {
    "begin": ("body",),
    "end": ("body",),
    "always": ("body",),
    "when": ("e", "body?"),
    "range": ("e", "e", "body?"),
}
TARGETS = {"name": True, "element": True, "field": True}
NAME_ROLES = {"name": True, "walked": True, "array": True, "called": True}
SINGLE_ROLES = {"e": True, "t": True, "e?": True, "t?": True}
ROW_ROLES = {"es": True, "es1": True, "es1?": True, "body": True, "body?": True, "part": True}


def roles_of(tree):
    """The roles of the parts of an expression, a statement or a rule behind its tag."""
    tag = tree[0]
    if tag in EXPRESSIONS:
        return EXPRESSIONS[tag]
    if tag in STATEMENTS:
        return STATEMENTS[tag]
    return RULES[tag]


def trees_in(role, value):
    """The list of the trees in one part of a tree."""
    if value is None:
        return []
    if role in SINGLE_ROLES:
        return [value]
    if role in ROW_ROLES:
        return list(value)
    if role == "out":
        return [value[1]]
    return []


def parts_of(tree):
    """The list of the expressions and statements that are the parts of a tree."""
    parts = []
    for role, value in zip(roles_of(tree), tree[1:]):
        parts.extend(trees_in(role, value))
    return parts


def with_parts(tree, parts, names):
    """A tree with other parts, a list as of parts_of, and with other names by a dict."""
    row = [tree[0]]
    done = 0
    for role, value in zip(roles_of(tree), tree[1:]):
        many = len(trees_in(role, value))
        row.append(with_part(role, value, tuple(parts[done:done + many]), names))
        done += many
    return tuple(row)


def with_part(role, value, trees, names):
    """One part of a tree, with other trees in it or another name."""
    if role in NAME_ROLES:
        return names.get(value, value)
    if value is None:
        return None
    if role in SINGLE_ROLES:
        return trees[0]
    if role in ROW_ROLES:
        return trees
    if role == "out":
        return (value[0], trees[0])
    return value


def with_names(tree, names):
    """A tree in which each name that a dict has is replaced everywhere at once."""
    order = []
    waiting = [tree]
    while waiting:
        node = waiting.pop()
        order.append(node)
        waiting.extend(parts_of(node))
    made = []
    for node in order[::-1]:
        first = len(made) - len(parts_of(node))
        parts = made[first:]
        del made[first:]
        made.append(with_parts(node, parts, names))
    return made[0]
