"""Reading programs and expressions from their sources."""

from patterndeeds.errors import NoProgram, TooLarge
from patterndeeds.expressions import read_expression
from patterndeeds.levels import ANY
from patterndeeds.printer import expression_text, program_text
from patterndeeds.reader import END, Reader
from patterndeeds.statements import read_block
from patterndeeds.words import are_too_large, words_of


def program_of(source):
    """The program of a source."""
    reader = Reader(fitting_words(source), True)
    rules = []
    functions = []
    reader.skip_seps()
    while reader.next_word() != END:
        closed = read_item(reader, rules, functions)
        if not closed and not reader.ends_row() and reader.next_word() != END:
            raise NoProgram(reader.at)
        reader.skip_seps()
    program = (tuple(rules), tuple(functions))
    program_text(program)
    return program


def expression_of(source):
    """The expression of a source without lines."""
    reader = Reader(fitting_words(source), False)
    tree = read_expression(reader, ANY)
    if reader.next_word() != END:
        raise NoProgram(reader.at)
    expression_text(tree)
    return tree


def fitting_words(source):
    """The words of a source, if they are not too large."""
    words = words_of(source)
    if are_too_large(words):
        raise TooLarge("the source is too large")
    return words


def read_item(reader, rules, functions):
    """Reads a rule or function into its list; tells whether it ends with a block."""
    kind, text = reader.next_word()
    if kind == "key" and text == "function":
        functions.append(read_function(reader))
        return True
    if kind == "key" and (text == "BEGIN" or text == "END"):
        reader.take()
        rules.append((text.lower(), read_block(reader)))
        return True
    if reader.sees("{"):
        rules.append(("always", read_block(reader)))
        return True
    rule = read_head(reader)
    body = None
    if reader.sees("{"):
        body = read_block(reader)
    rules.append(rule + (body,))
    return body is not None


def read_head(reader):
    """Reads the pattern of a rule: a rule without its body."""
    first = read_expression(reader, ANY)
    if not reader.sees(","):
        return ("when", first)
    reader.take()
    reader.skip_lines()
    return ("range", first, read_expression(reader, ANY))


def read_function(reader):
    """Reads a function."""
    reader.take()
    kind, name = reader.next_word()
    if kind != "name" and kind != "call":
        raise NoProgram(reader.at)
    reader.take()
    reader.demand("symbol", "(")
    params = []
    if not reader.sees(")"):
        params.append(reader.demand_name())
    while reader.sees(","):
        reader.take()
        reader.skip_lines()
        params.append(reader.demand_name())
    reader.demand("symbol", ")")
    reader.skip_lines()
    return (name, tuple(params), read_block(reader))
