"""Trees: which values are programs and expressions, their places and their depth."""

from patterndeeds.decimals import is_decimal
from patterndeeds.errors import InvalidProgram
from patterndeeds.shapes import (
    BODIES, LENGTHS, ROWS, RULE_LENGTHS, SINGLES, STATEMENT_LENGTHS, TARGETS, TESTS, bodies_of, expressions_in,
    parts_of, statements_of,
)
from patterndeeds.signs import BUILTS, is_name, is_pattern_text, is_text

OPERATORS = ("+", "-", "*", "/", "@", "^")
COMPARERS = ("<", "<=", "==", "!=", ">", ">=")
OUTS = (">", ">>", "|")
SOURCES = ("<", "|")
# What may do without a body, without a test.
BODILESS = ("when", "range")
TESTLESS = ("for", "exit", "return")


def is_number_tree(tree):
    """Whether a tuple has the parts of a number; those that are no trees, as in all that follow."""
    return is_decimal(tree[1], tree[2])


def is_text_tree(tree):
    """Whether a tuple has the text of a text."""
    return is_text(tree[1])


def is_pattern_tree(tree):
    """Whether a tuple has the text of a pattern."""
    return is_pattern_text(tree[1])


def is_name_tree(tree):
    """Whether a tuple has the name of a name, or of a walk or delete its array as well."""
    return is_name(tree[1])


def is_element_tree(tree):
    """Whether a tuple has the array of an element, and a key."""
    return is_name(tree[1]) and type(tree[2]) is tuple and len(tree[2]) > 0


def is_in_tree(tree):
    """Whether a tuple has the array of an in, and a key."""
    return is_name(tree[2]) and type(tree[1]) is tuple and len(tree[1]) > 0


def is_set_tree(tree):
    """Whether a tuple has the target of a set."""
    return is_target(tree[1])


def is_change_tree(tree):
    """Whether a tuple has the operator and the target of a change."""
    return is_one_of(tree[1], OPERATORS) and is_target(tree[2])


def is_step_tree(tree):
    """Whether a tuple has the target, the number and the truth of a step."""
    return is_target(tree[1]) and type(tree[2]) is int and tree[2] in (1, -1) and type(tree[3]) is bool


def is_match_tree(tree):
    """Whether a tuple has the truth of a match."""
    return type(tree[3]) is bool


def is_compare_tree(tree):
    """Whether a tuple has the sign of a comparison."""
    return is_one_of(tree[1], COMPARERS)


def is_op_tree(tree):
    """Whether a tuple has the operator of an operation."""
    return is_one_of(tree[1], OPERATORS)


def is_call_tree(tree):
    """Whether a tuple has the name of a call, and arguments."""
    return is_name(tree[1]) and type(tree[2]) is tuple


def is_built_tree(tree):
    """Whether a tuple has a built-in word, and arguments."""
    return type(tree[1]) is str and tree[1] in BUILTS and type(tree[2]) is tuple


def is_getline_tree(tree):
    """Whether a tuple has the kind of a getline, and perhaps a target."""
    if tree[3] is not None and not is_target(tree[3]):
        return False
    if tree[2] is None:
        return type(tree[1]) is str and tree[1] == "main"
    return is_one_of(tree[1], SOURCES)


def is_one_of(value, words):
    """Whether any value is one of some strings."""
    return type(value) is str and value in words


def is_target(value):
    """Whether any value begins as a target does."""
    return type(value) is tuple and len(value) > 0 and is_one_of(value[0], TARGETS)


# What has to hold of the parts of an expression that are no trees.
CHECKS = {
    "number": is_number_tree, "text": is_text_tree, "pattern": is_pattern_tree, "name": is_name_tree,
    "element": is_element_tree, "set": is_set_tree, "change": is_change_tree, "step": is_step_tree, "in": is_in_tree,
    "match": is_match_tree, "compare": is_compare_tree, "op": is_op_tree, "call": is_call_tree,
    "built": is_built_tree, "getline": is_getline_tree,
}


def is_expression(value):
    """Whether any value is an expression."""
    return are_expressions([value])


def are_expressions(values):
    """Whether some values are expressions."""
    waiting = list(values)
    while waiting:
        tree = waiting.pop()
        if type(tree) is not tuple or len(tree) == 0:
            return False
        tag = tree[0]
        if type(tag) is not str or tag not in LENGTHS or len(tree) != LENGTHS[tag]:
            return False
        if tag in CHECKS:
            action = CHECKS[tag]
            if not action(tree):
                return False
        for at in SINGLES[tag]:
            waiting.append(tree[at])
        if tag in ROWS:
            waiting.extend(tree[ROWS[tag]])
        elif tag == "getline":
            waiting.extend(parts_of(tree))
    return True


def is_program(value):
    """Whether any value is a program."""
    if type(value) is not tuple or len(value) != 2 or type(value[0]) is not tuple or type(value[1]) is not tuple:
        return False
    waiting = []
    expressions = []
    for rule in value[0]:
        if not is_rule(rule) or not are_parts_fitting(rule, waiting, expressions):
            return False
    for function in value[1]:
        if type(function) is not tuple or len(function) != 3 or not is_name(function[0]):
            return False
        if not are_names(function[1]) or type(function[2]) is not tuple:
            return False
        waiting.extend(function[2])
    while waiting:
        statement = waiting.pop()
        if not is_statement(statement) or not are_parts_fitting(statement, waiting, expressions):
            return False
    return are_expressions(expressions)


def are_names(value):
    """Whether any value is a tuple of names."""
    if type(value) is not tuple:
        return False
    for name in value:
        if not is_name(name):
            return False
    return True


def tag_of(value):
    """The string with which any value begins, if it is a tuple; else an empty one."""
    if type(value) is tuple and len(value) > 0 and type(value[0]) is str:
        return value[0]
    return ""


def is_rule(value):
    """Whether any value has the length that its tag, one of a rule, tells."""
    tag = tag_of(value)
    return tag in RULE_LENGTHS and len(value) == RULE_LENGTHS[tag]


def is_statement(value):
    """Whether any value has the length that its tag, one of a statement, tells, and parts of the right kind."""
    tag = tag_of(value)
    if tag not in STATEMENT_LENGTHS or len(value) != STATEMENT_LENGTHS[tag]:
        return False
    if tag == "print" or tag == "printf":
        return is_print(value)
    if tag == "for":
        return is_part(value[1]) and is_part(value[3])
    if tag == "walk":
        return is_name(value[1]) and is_name(value[2])
    if tag == "delete":
        return is_name(value[1]) and (value[2] is None or type(value[2]) is tuple and len(value[2]) > 0)
    return True


def is_print(value):
    """Whether what may be a print or printf has a row of expressions, and tells where to it writes."""
    tag, trees, out = value
    if type(trees) is not tuple or tag == "printf" and trees == ():
        return False
    return out is None or type(out) is tuple and len(out) == 2 and is_one_of(out[0], OUTS)


def is_part(value):
    """Whether any value may be the first or the third part of a for."""
    return type(value) is tuple and (len(value) == 0 or len(value) == 1 and tag_of(value[0]) == "expr")


def are_parts_fitting(tree, waiting, expressions):
    """Whether the bodies of a rule or a statement are tuples; notes what is in them, and its expressions."""
    tag = tree[0]
    for at in BODIES.get(tag, ()):
        if type(tree[at]) is tuple:
            waiting.extend(tree[at])
        elif tree[at] is not None or tag not in BODILESS:
            return False
    for at in TESTS.get(tag, ()):
        if tree[at] is not None or tag not in TESTLESS:
            expressions.append(tree[at])
    if tag not in TESTS:
        expressions.extend(expressions_in(tree))
    return True


def places(program):
    """The list of what the places number: None, then the rules and statements."""
    if not is_program(program):
        raise InvalidProgram("the value is no program")
    found = [None]
    for rule in program[0]:
        found.append(rule)
        found.extend(statements_of(bodies_of(rule)))
    return found + statements_of([function[2] for function in program[1]])


def depth(program):
    """The greatest depth of the rules and functions of a program."""
    if not is_program(program):
        raise InvalidProgram("the value is no program")
    deepest = 0
    waiting = [(rule, 1) for rule in program[0]]
    expressions = []
    for _, _, body in program[1]:
        deepest = 1
        waiting.extend([(statement, 2) for statement in body])
    while waiting:
        tree, level = waiting.pop()
        deepest = max(deepest, level)
        expressions.extend([(part, level + 1) for part in expressions_in(tree)])
        for body in bodies_of(tree):
            waiting.extend([(part, level + 1) for part in body])
    while expressions:
        tree, level = expressions.pop()
        deepest = max(deepest, level)
        expressions.extend([(part, level + 1) for part in parts_of(tree)])
    return deepest
