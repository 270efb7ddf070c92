"""Random trees, made from the shapes of the document and not by the parser."""

NAMES = ["x", "y", "n", "f1", "NF"]
TEXTS = ["", "a", "(", "\n\"\\", "\t/"]
PATTERNS = ["", "a/b", "[", "\\.", "\\\\/"]
NUMBERS = [(0, 1), (1, 1), (2, 1), (1, 2), (29, 4), (10 ** 59, 1), (1, 10 ** 60)]
BUILTS = ["length", "substr", "split", "sub", "close", "int"]
OPERATORS = ["+", "-", "*", "/", "@", "^"]
COMPARERS = ["<", "<=", "==", "!=", ">", ">="]
LEAVES = ["number", "text", "pattern", "name"]
TARGETS = ["name", "element", "field"]
PAIRS = ["or", "and", "join"]
UNARY = ["not", "minus", "plus", "field"]
INNER = PAIRS + UNARY + ["element", "set", "change", "step", "choose", "in", "match", "compare", "op",
                         "op", "call", "built", "getline", "compare", "getline"]
# How many arguments each built-in word may have.
ARGUMENTS = {"length": [0, 1, 1], "index": [2], "match": [2], "substr": [2, 3], "split": [2, 3], "sub": [2, 3],
        "gsub": [2, 3],
             "tolower": [1], "toupper": [1], "int": [1], "close": [1], "sprintf": [1, 2, 5]}
SIMPLE = ["expr", "print", "printf", "break", "continue", "next", "exit", "return", "delete"]
NESTED = ["if", "while", "do", "for", "walk"]


class Trees:
    """A maker of random trees."""

    def __init__(self, random, names=None, functions=None):
        self.random = random
        self.names = names or NAMES
        self.functions = functions or ["f", "g"]

    def name(self):
        return self.random.choice(self.names)

    def several(self, level, least):
        return tuple(self.expression(level) for _ in range(self.random.randrange(least, 3)))

    def leaf(self):
        pick = self.random.choice
        tag = pick(LEAVES)
        if tag == "number":
            return (tag,) + pick(NUMBERS)
        return (tag, {"text": pick(TEXTS), "pattern": pick(PATTERNS), "name": self.name()}[tag])

    def target(self, level):
        tag = self.random.choice(TARGETS if level > 0 else ["name"])
        if tag == "name":
            return (tag, self.name())
        if tag == "field":
            return (tag, self.expression(level - 1))
        return (tag, self.name(), self.several(level - 1, 1))

    def expression(self, level):
        """An expression of at most this depth, from 1 on."""
        pick = self.random.choice
        if level <= 1 or self.random.random() < 0.1:
            return self.leaf()
        tag = pick(INNER)
        part = self.expression(level - 1)
        other = self.expression(level - 1)
        if tag in UNARY:
            return (tag, part)
        if tag in PAIRS:
            return (tag, part, other)
        if tag == "element":
            return (tag, self.name(), self.several(level - 1, 1))
        if tag in ["call", "built"]:
            return self.called(tag, level)
        if tag == "set":
            return (tag, self.target(level - 1), part)
        if tag == "change":
            return (tag, pick(OPERATORS), self.target(level - 1), part)
        if tag == "step":
            return (tag, self.target(level - 1), pick([1, -1]), pick([True, False]))
        if tag == "choose":
            return (tag, part, other, self.expression(level - 1))
        if tag == "in":
            return (tag, self.several(level - 1, 1), self.name())
        if tag == "match":
            return (tag, part, other, pick([True, False]))
        if tag in ["compare", "op"]:
            return (tag, pick(COMPARERS if tag == "compare" else OPERATORS), part, other)
        kind = pick(["main", "<", "|"])
        target = pick([None, self.target(level - 1)])
        return (tag, kind, None if kind == "main" else part, target)

    def called(self, tag, level):
        word = self.random.choice(self.functions if tag == "call" else BUILTS)
        return (tag, word, self.several(level - 1, 0))

    def tags(self, level):
        """The tags that a statement may have here."""
        return SIMPLE + NESTED if level > 2 else SIMPLE

    def inner(self, tag, level):
        """The body of a statement with this tag."""
        return self.body(level)

    def statement(self, level):
        """A statement of at most this depth, from 2 on."""
        pick = self.random.choice
        tag = pick(self.tags(level))
        part = self.expression(level - 1)
        if tag in ["break", "continue", "next"]:
            return (tag,)
        if tag == "expr":
            return (tag, part)
        if tag in ["exit", "return"]:
            return (tag, pick([None, part]))
        if tag == "delete":
            return (tag, self.name(), pick([None, self.several(level - 1, 1)]))
        if tag in ["print", "printf"]:
            out = pick([None, (pick([">", ">>", "|"]), part)])
            return (tag, self.several(level - 1, 0 if tag == "print" else 1), out)
        body = self.inner(tag, level - 1)
        if tag == "if":
            return (tag, part, body, pick([(), self.body(level - 1)]))
        if tag == "while":
            return (tag, part, body)
        if tag == "do":
            return (tag, body, part)
        if tag == "walk":
            return (tag, self.name(), self.name(), body)
        return (tag, self.part(level - 1), pick([None, part]), self.part(level - 1), body)

    def part(self, level):
        if level < 2 or self.random.random() < 0.3:
            return ()
        return (("expr", self.expression(level - 1)),)

    def body(self, level):
        return tuple(self.statement(level) for _ in range(self.random.randrange(3)))

    def rule(self, level):
        pick = self.random.choice
        tag = pick(["begin", "end", "always", "when", "range"])
        body = self.body(level - 1)
        if tag == "when":
            return (tag, self.expression(level - 1), pick([None, body]))
        if tag == "range":
            return (tag, self.expression(level - 1), self.expression(level - 1), pick([None, body]))
        return (tag, body)

    def program(self, level):
        rules = tuple(self.rule(level) for _ in range(self.random.randrange(4)))
        functions = []
        for name in self.functions[:self.random.randrange(3)]:
            params = tuple(self.name() for _ in range(self.random.randrange(3)))
            functions.append((name, params, self.body(level - 1)))
        return rules, tuple(functions)


class Faultless(Trees):
    """A maker of random programs without a fault; most arguments are names, so that links arise."""

    def __init__(self, random, names=None, functions=None):
        names = names or ["x", "y", "n", "v1", "p2", "NF", "RS"]
        Trees.__init__(self, random, names, functions or ["f", "g", "f1", "h"])
        self.heads = {}
        self.local = []
        self.loops = 0
        self.tag = ""

    def name(self):
        return self.random.choice(self.names + self.local * 3)

    def expression(self, level):
        if level > 1 and self.heads and self.random.random() < 0.3:
            return self.called("call", level)
        return Trees.expression(self, level)

    def body(self, level):
        return tuple(self.statement(level) for _ in range(self.random.randrange(4)))

    def argument(self, level):
        if self.random.random() < 0.7:
            return ("name", self.name())
        return self.expression(level)

    def called(self, tag, level):
        if tag == "call" and self.heads:
            word = self.random.choice(sorted(self.heads))
            many = self.random.randrange(len(self.heads[word]) + 1)
            return (tag, word, tuple(self.argument(level - 1) for _ in range(many)))
        word = self.random.choice(sorted(ARGUMENTS))
        trees = [self.argument(level - 1) for _ in range(self.random.choice(ARGUMENTS[word]))]
        if word == "split":
            trees[1] = ("name", self.name())
        if word in ("sub", "gsub") and len(trees) == 3:
            trees[2] = self.target(level - 1)
        return ("built", word, tuple(trees))

    def tags(self, level):
        tags = Trees.tags(self, level) + ["expr"] * 4
        barred = [] if self.loops else ["break", "continue"]
        if self.tag != "function":
            barred = barred + ["return"]
        if self.tag in ("begin", "end", "function"):
            barred = barred + ["next"]
        return [tag for tag in tags if tag not in barred]

    def inner(self, tag, level):
        looped = tag in ("while", "do", "for", "walk")
        self.loops += looped
        body = self.body(level)
        self.loops -= looped
        return body

    def rule(self, level):
        self.tag = self.random.choice(["begin", "end", "always", "when", "range"])
        body = self.body(level - 1)
        if self.tag == "when":
            return (self.tag, self.expression(level - 1), self.random.choice([None, body]))
        if self.tag == "range":
            return (self.tag, self.expression(level - 1), self.expression(level - 1), self.random.choice([None, body]))
        return (self.tag, body)

    def program(self, level):
        variables = [name for name in self.names if name.upper() != name]
        self.heads = {}
        for name in self.functions[:self.random.randrange(len(self.functions) + 1)]:
            params = self.random.sample(variables, self.random.randrange(min(4, len(variables) + 1)))
            self.heads[name] = tuple(params)
        self.local = []
        rules = tuple(self.rule(level) for _ in range(self.random.randrange(4)))
        functions = []
        for name, params in self.heads.items():
            self.tag = "function"
            self.local = list(params)
            functions.append((name, params, self.body(level - 1)))
        return rules, tuple(functions)
