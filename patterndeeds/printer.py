"""The printed text of programs and expressions."""

from patterndeeds.errors import InvalidExpression, InvalidProgram, TooLarge
from patterndeeds.layout import expression_row
from patterndeeds.levels import ANY, JOINED
from patterndeeds.trees import is_expression, is_program
from patterndeeds.words import are_too_large, words_of


def program_text(program):
    """The printed text of a program."""
    if not is_program(program):
        raise InvalidProgram("the value is no program")
    return checked(program_rows(program))


def expression_text(expression):
    """The printed text of an expression that stands outside of print."""
    if not is_expression(expression):
        raise InvalidExpression("the value is no expression")
    return checked(row(expression))


def checked(text):
    """A printed text, if its words are not too large."""
    if are_too_large(words_of(text)):
        raise TooLarge("the printed text is too large")
    return text


def row(tree):
    """An expression at a place where any may stand."""
    return expression_row(tree, ANY, False)


def listed(trees, bare):
    """A list of expressions, perhaps that of a print."""
    return ", ".join([expression_row(tree, ANY, bare) for tree in trees])


def program_rows(program):
    """The printed text of a program, whatever its size."""
    rows = []
    for rule in program[0]:
        rows.extend(rule_rows(rule))
    for name, params, body in program[1]:
        rows.extend(block_rows(0, "function " + name + "(" + ", ".join(params) + ") {", body))
        rows.append((0, "}"))
    return "".join(laid_out(rows))


def laid_out(rows):
    """The lines of rows (level, row), each row a string or a statement that has rows of its own."""
    lines = []
    waiting = rows[::-1]
    while waiting:
        level, piece = waiting.pop()
        if type(piece) is str:
            lines.append("  " * level + piece + "\n")
        else:
            waiting.extend(statement_rows(level, piece)[::-1])
    return lines


def block_rows(level, head, body):
    """The rows of what ends with an opening brace, and of the body behind it."""
    return [(level, head)] + [(level + 1, statement) for statement in body]


def rule_rows(rule):
    """The rows of a rule."""
    body = rule[-1]
    head = rule_head(rule)
    if body is None:
        return [(0, head)]
    if head != "":
        head += " "
    return block_rows(0, head + "{", body) + [(0, "}")]


def rule_head(rule):
    """What stands ahead of the block of a rule."""
    tag = rule[0]
    if tag == "begin":
        return "BEGIN"
    if tag == "end":
        return "END"
    return listed(rule[1:-1], False)


def statement_rows(level, statement):
    """The rows of a statement."""
    tag = statement[0]
    if tag == "if":
        return if_rows(level, statement)
    if tag == "do":
        _, body, test = statement
        return block_rows(level, "do {", body) + [(level, "} while (" + row(test) + ")")]
    if tag == "while" or tag == "for" or tag == "walk":
        return block_rows(level, loop_head(statement), statement[-1]) + [(level, "}")]
    return [(level, simple_row(statement))]


def if_rows(level, statement):
    """The rows of an if, with an else or without."""
    _, test, body, other = statement
    rows = block_rows(level, "if (" + row(test) + ") {", body)
    if other != ():
        rows = rows + block_rows(level, "} else {", other)
    return rows + [(level, "}")]


def loop_head(statement):
    """What stands ahead of the body of a while, a for or a walk."""
    tag = statement[0]
    if tag == "while":
        return "while (" + row(statement[1]) + ") {"
    if tag == "walk":
        return "for (" + statement[1] + " in " + statement[2] + ") {"
    _, first, test, third, _ = statement
    head = "for (" + part_row(first) + "; "
    if test is not None:
        head += row(test)
    return head + "; " + part_row(third) + ") {"


def part_row(part):
    """The first or the third part of a for."""
    return "".join([row(statement[1]) for statement in part])


def simple_row(statement):
    """The one row of a statement without a body."""
    tag = statement[0]
    if tag == "expr":
        return row(statement[1])
    if tag == "print" or tag == "printf":
        return print_row(statement)
    if tag == "exit" or tag == "return":
        if statement[1] is None:
            return tag
        return tag + " " + row(statement[1])
    if tag == "delete":
        return delete_row(statement)
    return tag


def print_row(statement):
    """The row of a print or printf."""
    tag, trees, out = statement
    text = tag
    if trees != ():
        text += " " + listed(trees, True)
    if out is not None:
        text += " " + out[0] + " " + expression_row(out[1], JOINED, False)
    return text


def delete_row(statement):
    """The row of a delete."""
    _, array, keys = statement
    if keys is None:
        return "delete " + array
    return "delete " + array + "[" + listed(keys, False) + "]"
