"""Trees: which values are programs and expressions, their places and their depth."""

from patterndeeds.decimals import is_decimal
from patterndeeds.errors import InvalidProgram
from patterndeeds.shapes import EXPRESSIONS, NAME_ROLES, RULES, STATEMENTS, TARGETS, parts_of
from patterndeeds.signs import BUILTS, is_name, is_pattern_text, is_text

OPERATORS = {"+": True, "-": True, "*": True, "/": True, "@": True, "^": True}
COMPARERS = {"<": True, "<=": True, "==": True, "!=": True, ">": True, ">=": True}
OUTS = {">": True, ">>": True, "|": True}
SOURCES = {"main": True, "<": True, "|": True}
NODE_ROLES = {"e": True, "t": True, "statement": True, "expr": True, "rule": True}
OPTIONS = {"e?": "e", "t?": "t"}
ROWS = {"es": "e", "es1": "e", "es1?": "e", "body": "statement", "body?": "statement", "part": "expr"}


def is_expression(value):
    """Whether any value is an expression."""
    return are_fitting([("e", value)])


def is_program(value):
    """Whether any value is a program."""
    if not is_tuple(value, 2) or type(value[0]) is not tuple or type(value[1]) is not tuple:
        return False
    waiting = [("rule", rule) for rule in value[0]]
    for function in value[1]:
        if not is_tuple(function, 3) or not is_name(function[0]) or not are_names(function[1]):
            return False
        waiting.append(("body", function[2]))
    return are_fitting(waiting)


def is_tuple(value, length):
    """Whether any value is a tuple of this length."""
    return type(value) is tuple and len(value) == length


def are_names(value):
    """Whether any value is a tuple of names."""
    if type(value) is not tuple:
        return False
    for name in value:
        if not is_name(name):
            return False
    return True


def are_fitting(rows):
    """Whether in each of some tuples (role, value) the value fits the role."""
    waiting = list(rows)
    while waiting:
        role, value = waiting.pop()
        parts = parts_to_fit(role, value)
        if parts is None:
            return False
        waiting.extend(parts)
    return True


def parts_to_fit(role, value):
    """The tuples (role, part) that have to fit if a value fits a role; None if it does not."""
    if role in NODE_ROLES:
        return node_parts(role, value)
    if role in ROWS:
        return row_parts(role, value)
    if role in OPTIONS:
        if value is None:
            return []
        return [(OPTIONS[role], value)]
    if role == "out":
        return out_parts(value)
    if is_leaf(role, value):
        return []
    return None


def node_parts(role, value):
    """The parts, with their roles, of what should be a tree; None if it is none."""
    if type(value) is not tuple or len(value) == 0 or type(value[0]) is not str:
        return None
    roles = node_roles(role, value[0])
    if roles is None or len(value) != len(roles) + 1:
        return None
    if value[0] == "number" and not is_decimal(value[1], value[2]):
        return None
    if value[0] == "getline" and (value[1] == "main") != (value[2] is None):
        return None
    return list(zip(roles, value[1:]))


def node_roles(role, tag):
    """The roles of the parts of a tree with this tag; None if it may not stand in this role."""
    if role == "statement":
        return STATEMENTS.get(tag)
    if role == "rule":
        return RULES.get(tag)
    if role == "expr" and tag != "expr" or role == "t" and tag not in TARGETS:
        return None
    if role == "expr":
        return STATEMENTS[tag]
    return EXPRESSIONS.get(tag)


def row_parts(role, value):
    """The parts of what should be a tuple of trees; None if it is none."""
    if value is None and (role == "es1?" or role == "body?"):
        return []
    if type(value) is not tuple:
        return None
    if len(value) == 0 and (role == "es1" or role == "es1?"):
        return None
    if len(value) > 1 and role == "part":
        return None
    return [(ROWS[role], part) for part in value]


def out_parts(value):
    """The parts of what should tell where to a print writes; None if it does not."""
    if value is None:
        return []
    if not is_tuple(value, 2) or type(value[0]) is not str or value[0] not in OUTS:
        return None
    return [("e", value[1])]


def is_leaf(role, value):
    """Whether a value fits the role of a part that has no trees in it."""
    if role in NAME_ROLES:
        return is_name(value)
    if role == "text":
        return is_text(value)
    if role == "pattern":
        return is_pattern_text(value)
    if role == "truth":
        return type(value) is bool
    if role == "by":
        return type(value) is int and (value == 1 or value == -1)
    if role == "top" or role == "bottom":
        return type(value) is int
    return type(value) is str and is_word_for(role, value)


def is_word_for(role, word):
    """Whether a string is one of the words of a role."""
    if role == "built":
        return word in BUILTS
    if role == "operator":
        return word in OPERATORS
    if role == "comparer":
        return word in COMPARERS
    return word in SOURCES


def places(program):
    """The list of what the places number: None, then the rules and statements."""
    if not is_program(program):
        raise InvalidProgram("the value is no program")
    return placed(program)


def placed(program):
    """What the places of a program number."""
    found = [None]
    waiting = []
    for _, _, body in program[1][::-1]:
        waiting.extend(body[::-1])
    waiting.extend(program[0][::-1])
    while waiting:
        tree = waiting.pop()
        if tree[0] not in EXPRESSIONS:
            found.append(tree)
            waiting.extend(parts_of(tree)[::-1])
    return found


def depth(program):
    """The greatest depth of the rules and functions of a program."""
    if not is_program(program):
        raise InvalidProgram("the value is no program")
    deepest = 0
    waiting = [(rule, 1) for rule in program[0]]
    for _, _, body in program[1]:
        deepest = 1
        waiting.extend([(statement, 2) for statement in body])
    while waiting:
        tree, level = waiting.pop()
        deepest = max(deepest, level)
        waiting.extend([(part, level + 1) for part in parts_of(tree)])
    return deepest
