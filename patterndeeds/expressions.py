"""Reading expressions: operands and operators over a stack of frames."""

from patterndeeds.decimals import decimal_of
from patterndeeds.errors import NoProgram
from patterndeeds.levels import (
    ANY, ATOM, CHOICE, EITHER, FIELD_PART, FILE_READ, INFIX, INSIDE, JOINED, PIPE, READ, SIGNED, STEP, SUM, TARGET,
)

UNARY = {"!": "not", "-": "minus", "+": "plus"}
STEPS = {"++": 1, "--": -1}
SETTING = {"=": "", "+=": "+", "-=": "-", "*=": "*", "/=": "/", "@=": "@", "^=": "^"}
LOGICAL = {"||": "or", "&&": "and"}
NEGATED = {"~": False, "!~": True}
ARITHMETIC = {"+": True, "-": True, "*": True, "/": True, "@": True, "^": True}
JOINING_KINDS = {"name": True, "call": True, "built": True, "number": True, "text": True}
# Frames that end only at a word of their own, or at the end of the expression.
CLOSED_KINDS = {"base": True, "group": True, "arguments": True, "keys": True, "middle": True}


class Frame:
    """What waits for an operand: its kind, the level it wants, what it will be, what it has.

    printing tells whether it stands in the list of a print without a bracket around.
    """

    def __init__(self, kind, want, result, held, printing):
        self.kind = kind
        self.want = want
        self.result = result
        self.kept = held
        self.printing = printing


class Expressions:
    """The reading of one expression; tree is None as long as an operand is to come.

    rows is None, or what stood in the one pair of brackets around the whole list of a print.
    """

    def __init__(self, reader, want, printing, leading):
        self.reader = reader
        self.frames = [Frame("base", want, ANY, leading, printing)]
        self.tree = None
        self.level = ANY
        self.rows = None
        self.done = False

    def read(self):
        """Reads up to the first word that does not belong to the expression."""
        while not self.done:
            if self.tree is None:
                self.operand()
            else:
                self.infix()

    def push(self, kind, want, result, held):
        """A new frame, in which an operand is to come."""
        self.frames.append(Frame(kind, want, result, held, self.frames[-1].printing))
        self.tree = None

    def push_bracket(self, kind, held):
        """A new frame for what stands within round or square brackets."""
        self.frames.append(Frame(kind, ANY, ANY, held, False))
        self.tree = None

    def settle(self, tree, level):
        """The operand that was to come."""
        self.tree = tree
        self.level = level

    def admit(self, level):
        """Takes the next word, if an operand of this level may stand here."""
        if self.frames[-1].want > level:
            raise NoProgram(self.reader.at)
        return self.reader.take()

    def operand(self):
        """Begins the operand that is to come."""
        kind, text = self.reader.next_word()
        if kind == "name":
            self.name_operand()
        elif kind == "number":
            top, bottom = decimal_of(self.admit(ATOM)[1])
            self.settle(("number", top, bottom), ATOM)
        elif kind == "text" or kind == "pattern":
            self.settle(self.admit(ATOM), ATOM)
        elif kind == "call":
            self.admit(ATOM)
            self.arguments(kind, text)
        elif kind == "built":
            self.built_operand()
        elif kind == "symbol":
            self.symbol_operand(text)
        elif kind == "key" and text == "getline":
            self.admit(READ)
            self.begin_getline(None)
        else:
            raise NoProgram(self.reader.at)

    def name_operand(self):
        """A name, or the beginning of an element."""
        name = self.admit(TARGET)[1]
        if self.reader.sees("["):
            self.reader.take()
            self.push_bracket("keys", (name, []))
        else:
            self.settle(("name", name), TARGET)

    def built_operand(self):
        """The beginning of a call of a built-in word; length may stand alone."""
        word = self.admit(ATOM)[1]
        if word == "length" and not self.reader.sees("("):
            self.settle(("built", word, ()), ATOM)
        else:
            self.arguments("built", word)

    def arguments(self, tag, word):
        """The beginning of the arguments of a call."""
        self.reader.demand("symbol", "(")
        if self.reader.sees(")"):
            self.reader.take()
            self.settle((tag, word, ()), ATOM)
        else:
            self.push_bracket("arguments", (tag, word, []))

    def symbol_operand(self, symbol):
        """The beginning of an operand that begins with a symbol."""
        if symbol in UNARY:
            self.admit(SIGNED)
            self.push("unary", SIGNED, SIGNED, UNARY[symbol])
        elif symbol in STEPS:
            self.admit(FIELD_PART)
            self.push("step", TARGET, FIELD_PART, STEPS[symbol])
        elif symbol == "$":
            self.admit(TARGET)
            self.push("field", FIELD_PART, TARGET, None)
        elif symbol == "(":
            outer = self.frames[-1]
            self.admit(ATOM)
            leading = outer.kind == "base" and outer.kept
            self.push_bracket("group", (outer.want <= INSIDE, leading, []))
        else:
            raise NoProgram(self.reader.at)

    def begin_getline(self, origin):
        """What stands behind the key getline; origin is what is piped into it, or None."""
        if self.reader.next_word()[0] == "name" or self.reader.sees("$"):
            self.push("target", TARGET, ANY, origin)
        else:
            self.end_getline(origin, None)

    def end_getline(self, origin, target):
        """What stands behind the target of a getline; what is piped into it takes no file."""
        if origin is not None:
            self.settle(("getline", "|", origin, target), PIPE)
        elif self.reader.sees("<"):
            self.reader.take()
            self.push("file", ATOM, FILE_READ, target)
        else:
            self.settle(("getline", "main", None, target), READ)

    def infix(self):
        """Goes on behind an operand: by an operator, or by ending the frame that has it."""
        top = self.frames[-1]
        if self.shifts(top):
            return
        if top.kind in CLOSED_KINDS:
            self.close(top)
        else:
            self.reduce(self.frames.pop())

    def fits(self, result, left):
        """Whether an operator of this level, which wants this at its left, may stand here."""
        return self.level >= left and self.frames[-1].want <= result

    def shifts(self, top):
        """Takes an operator, if one may stand here; tells whether it did."""
        kind, text = self.reader.next_word()
        if kind == "symbol" and text in INFIX:
            return self.shifts_infix(top, text)
        if kind == "symbol" and text in SETTING:
            return self.shifts_other(ANY, TARGET, "set", ANY)
        if kind == "symbol" and text in STEPS:
            return self.shifts_step(STEPS[text])
        if kind == "symbol" and text == "?":
            return self.shifts_other(CHOICE, EITHER, "middle", ANY)
        if kind == "symbol" and text == "|":
            return not top.printing and self.shifts_pipe()
        if kind == "key" and text == "in":
            return self.shifts_in()
        joins = kind in JOINING_KINDS or kind == "symbol" and (text == "$" or text == "(")
        if not joins or not self.fits(JOINED, JOINED):
            return False
        self.push("join", SUM, JOINED, self.tree)
        return True

    def shifts_infix(self, top, symbol):
        """Takes an operator between two parts."""
        result, left, right = INFIX[symbol]
        if symbol == ">" and top.printing or not self.fits(result, left):
            return False
        self.reader.take()
        if symbol in LOGICAL:
            self.reader.skip_lines()
        self.push("infix", right, result, (symbol, self.tree))
        return True

    def shifts_other(self, result, left, kind, want):
        """Takes the sign of a set or a change, or a question mark."""
        if not self.fits(result, left):
            return False
        symbol = self.reader.take()[1]
        self.push(kind, want, result, (symbol, self.tree))
        return True

    def shifts_step(self, by):
        """Takes ++ or -- behind a target."""
        if not self.fits(STEP, TARGET):
            return False
        self.reader.take()
        self.settle(("step", self.tree, by, False), STEP)
        return True

    def shifts_pipe(self):
        """Takes the sign | and the key getline behind it."""
        if not self.fits(PIPE, PIPE):
            return False
        self.reader.take()
        self.reader.demand("key", "getline")
        self.begin_getline(self.tree)
        return True

    def shifts_in(self):
        """Takes the key in, and the name behind it."""
        if not self.fits(INSIDE, INSIDE):
            return False
        self.reader.take()
        self.settle(("in", (self.tree,), self.reader.demand_name()), INSIDE)
        return True

    def reduce(self, frame):
        """Makes one operand of a frame and the operand that it has got."""
        kind = frame.kind
        tree = self.tree
        if kind == "target":
            self.end_getline(frame.kept, tree)
            return
        if kind == "infix":
            tree = infix_tree(frame.kept[0], frame.kept[1], tree)
        elif kind == "set":
            tree = set_tree(frame.kept[0], frame.kept[1], tree)
        elif kind == "join":
            tree = ("join", frame.kept, tree)
        elif kind == "unary":
            tree = (frame.kept, tree)
        elif kind == "step":
            tree = ("step", tree, frame.kept, True)
        elif kind == "field":
            tree = ("field", tree)
        elif kind == "last":
            tree = ("choose", frame.kept[0], frame.kept[1], tree)
        else:
            tree = ("getline", "<", tree, frame.kept)
        self.settle(tree, frame.result)

    def close(self, top):
        """Ends a frame that ends only at a word of its own."""
        if top.kind == "base":
            self.done = True
        elif top.kind == "middle":
            self.reader.demand("symbol", ":")
            self.frames.pop()
            self.push("last", CHOICE, CHOICE, (top.kept[1], self.tree))
        elif self.reader.sees(","):
            self.next_item(top)
        elif top.kind == "keys":
            self.reader.demand("symbol", "]")
            self.frames.pop()
            name, trees = top.kept
            self.settle(("element", name, tuple(trees) + (self.tree,)), TARGET)
        elif top.kind == "arguments":
            self.reader.demand("symbol", ")")
            self.frames.pop()
            tag, word, trees = top.kept
            self.settle((tag, word, tuple(trees) + (self.tree,)), ATOM)
        else:
            self.reader.demand("symbol", ")")
            self.close_group(self.frames.pop())

    def next_item(self, top):
        """Goes on behind a comma within brackets."""
        if top.kind == "group" and not top.kept[0]:
            raise NoProgram(self.reader.at)
        self.reader.take()
        self.reader.skip_lines()
        top.kept[-1].append(self.tree)
        self.tree = None

    def close_group(self, group):
        """What stood in round brackets: one expression, the keys of an in, or all of a print."""
        _, leading, trees = group.kept
        if trees == []:
            self.level = ATOM
            return
        keys = tuple(trees) + (self.tree,)
        if leading and self.reader.next_word() != ("key", "in"):
            self.rows = keys
            self.done = True
        else:
            self.reader.demand("key", "in")
            self.settle(("in", keys, self.reader.demand_name()), INSIDE)


def infix_tree(symbol, left, right):
    """The tree of an operator between two parts."""
    if symbol in LOGICAL:
        return (LOGICAL[symbol], left, right)
    if symbol in NEGATED:
        return ("match", left, right, NEGATED[symbol])
    if symbol in ARITHMETIC:
        return ("op", symbol, left, right)
    return ("compare", symbol, left, right)


def set_tree(symbol, target, tree):
    """The tree of a set or a change."""
    if symbol == "=":
        return ("set", target, tree)
    return ("change", SETTING[symbol], target, tree)


def read_expression(reader, want):
    """Reads an expression of a level from this one on."""
    expressions = Expressions(reader, want, False, False)
    expressions.read()
    return expressions.tree


def read_list(reader):
    """Reads one expression or more, with commas between."""
    return tuple([read_expression(reader, ANY)] + read_more(reader, False))


def read_more(reader, printing):
    """Reads the rest of a list, behind its first expression."""
    trees = []
    while reader.sees(","):
        reader.take()
        reader.skip_lines()
        expressions = Expressions(reader, ANY, printing, False)
        expressions.read()
        trees.append(expressions.tree)
    return trees


def read_printed(reader):
    """Reads the list of a print."""
    expressions = Expressions(reader, ANY, True, True)
    expressions.read()
    if expressions.rows is not None:
        return expressions.rows
    return tuple([expressions.tree] + read_more(reader, True))
