"""Reading statements and blocks."""

from patterndeeds.errors import NoProgram
from patterndeeds.expressions import read_expression, read_list, read_printed
from patterndeeds.levels import ANY, JOINED
from patterndeeds.reader import begins_expression

OUTS = {">": True, ">>": True, "|": True}
BARE_KEYS = {"break": True, "continue": True, "next": True}
ENDING_KEYS = {"exit": True, "return": True}


def read_block(reader):
    """Reads a block: the tuple of its statements."""
    reader.demand("symbol", "{")
    body = []
    reader.skip_seps()
    while not reader.sees("}"):
        statements, closed = read_statement(reader)
        body.extend(statements)
        if not closed and not reader.ends_row() and not reader.sees("}"):
            raise NoProgram(reader.at)
        reader.skip_seps()
    reader.take()
    return tuple(body)


def read_statement(reader):
    """Reads a statement: the list of statements that it stands for, and whether it is closed."""
    kind, text = reader.next_word()
    if reader.sees("{"):
        return list(read_block(reader)), True
    if kind != "key" or text == "getline":
        return [("expr", read_expression(reader, ANY))], False
    if text == "if":
        tree, closed = read_if(reader)
    elif text == "while":
        tree, closed = read_while(reader)
    elif text == "for":
        tree, closed = read_for(reader)
    elif text == "do":
        tree, closed = read_do(reader), False
    else:
        tree, closed = read_simple(reader), False
    return [tree], closed


def read_simple(reader):
    """Reads a statement that begins with a key and has no body."""
    _, text = reader.next_word()
    if text == "print" or text == "printf":
        return read_print(reader)
    if text == "delete":
        return read_delete(reader)
    if text in BARE_KEYS:
        reader.take()
        return (text,)
    if text not in ENDING_KEYS:
        raise NoProgram(reader.at)
    reader.take()
    if begins_expression(reader.next_word()):
        return (text, read_expression(reader, ANY))
    return (text, None)


def read_print(reader):
    """Reads a print or printf."""
    _, tag = reader.take()
    trees = ()
    if tag == "printf" or begins_expression(reader.next_word()):
        trees = read_printed(reader)
    kind, text = reader.next_word()
    if kind != "symbol" or text not in OUTS:
        return (tag, trees, None)
    reader.take()
    return (tag, trees, (text, read_expression(reader, JOINED)))


def read_delete(reader):
    """Reads a delete."""
    reader.take()
    array = reader.demand_name()
    if not reader.sees("["):
        return ("delete", array, None)
    reader.take()
    keys = read_list(reader)
    reader.demand("symbol", "]")
    return ("delete", array, keys)


def read_test(reader):
    """Reads an expression in round brackets."""
    reader.demand("symbol", "(")
    tree = read_expression(reader, ANY)
    reader.demand("symbol", ")")
    return tree


def read_body(reader):
    """Reads a body: its statements, and whether it is closed."""
    reader.skip_lines()
    if reader.sees(";"):
        reader.take()
        return (), True
    statements, closed = read_statement(reader)
    return tuple(statements), closed


def read_while(reader):
    """Reads a while, and tells whether it is closed."""
    reader.take()
    test = read_test(reader)
    body, closed = read_body(reader)
    return ("while", test, body), closed


def read_do(reader):
    """Reads a do."""
    reader.take()
    body, closed = read_body(reader)
    if not closed and not reader.ends_row():
        raise NoProgram(reader.at)
    reader.skip_lines()
    if reader.sees(";"):
        reader.take()
    reader.skip_lines()
    reader.demand("key", "while")
    return ("do", body, read_test(reader))


def read_if(reader):
    """Reads an if, with the else that it can take, and tells whether it is closed."""
    reader.take()
    test = read_test(reader)
    body, closed = read_body(reader)
    if not takes_else(reader, closed):
        return ("if", test, body, ()), closed
    other, closed = read_body(reader)
    return ("if", test, body, other), closed


def takes_else(reader, closed):
    """Takes an else with the gap ahead of it, if it is the next; tells whether it did."""
    many = lines_ahead(reader, 0)
    if reader.ahead(many) == ("symbol", ";"):
        many = lines_ahead(reader, many + 1)
    if many == 0 and not closed or reader.ahead(many) != ("key", "else"):
        return False
    for _ in range(many + 1):
        reader.take()
    return True


def lines_ahead(reader, many):
    """How many words are passed by so many words and the lines behind them."""
    while reader.ahead(many)[0] == "line":
        many += 1
    return many


def read_for(reader):
    """Reads a for or a walk, and tells whether it is closed."""
    reader.take()
    reader.demand("symbol", "(")
    if begins_walk(reader):
        name = reader.demand_name()
        reader.take()
        array = reader.demand_name()
        reader.take()
        body, closed = read_body(reader)
        return ("walk", name, array, body), closed
    first = read_part(reader, ";")
    test = None
    if not reader.sees(";"):
        test = read_expression(reader, ANY)
    reader.demand("symbol", ";")
    third = read_part(reader, ")")
    body, closed = read_body(reader)
    return ("for", first, test, third, body), closed


def begins_walk(reader):
    """Whether the next words are a name, in, a name and a closing bracket."""
    if reader.ahead(0)[0] != "name" or reader.ahead(1) != ("key", "in"):
        return False
    return reader.ahead(2)[0] == "name" and reader.ahead(3) == ("symbol", ")")


def read_part(reader, symbol):
    """Reads the first or third part of a for, and the symbol behind it."""
    part = ()
    if not reader.sees(symbol):
        part = (("expr", read_expression(reader, ANY)),)
    reader.demand("symbol", symbol)
    return part
