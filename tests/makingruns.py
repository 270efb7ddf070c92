"""Random programs for runs: sound ones, whose names and texts are such that something happens."""

SCALARS = ["x", "y", "z"]
ARRAYS = ["a", "b"]
SPECIALS = ["NF", "NR", "FNR", "RSTART", "RLENGTH", "FILENAME", "FS", "OFS", "ORS", "RS", "SUBSEP"]
SET_SPECIALS = ["NF", "NF", "NR", "OFS", "ORS", "FS", "RS", "SUBSEP", "RSTART"]
TEXTS = ["", "a", "b", "ab", "1", "2", "a b", "f", "x,y", "0", " ", "@s-", "12a"]
PATTERNS = ["a", "b+", "^a", "1$", "x*", "", "[ab]", "(a|b)b", "("]
SEPARATORS = [" ", ",", "", "a", "\n", "b+", ";", "("]
FORMATS = ["@s", "@d ", "@5.2f|", "@-3s|@c\n", "x\n", "@x"]
NUMBERS = [(0, 1), (1, 1), (1, 1), (2, 1), (3, 1), (5, 2), (17, 1), (1, 3), (10 ** 40, 1)]
NAMES = ["f", "g", "h"]
WORDS = ["length", "length", "index", "substr", "split", "sub", "gsub", "match", "sprintf", "tolower", "toupper", "int",
         "close"]


INNER = """element element field set set set change change step step choose or and in match compare compare join join op
op op not minus plus call call call built built built getline""".split()


class Runs:
    """A maker of sound programs and of worlds."""

    def __init__(self, random):
        self.random = random
        self.heads = {}
        self.params = {}
        self.loops = 0
        self.tag = ""

    def pick(self, rows):
        return self.random.choice(rows)

    def scalar(self):
        names = [name for name, kind in self.params.items() if kind == "value"]
        if names and self.random.random() < 0.6:
            return self.pick(names)
        return self.pick(SCALARS * 3 + SPECIALS)

    def array(self):
        names = [name for name, kind in self.params.items() if kind == "array"]
        if names and self.random.random() < 0.7:
            return self.pick(names)
        return self.pick([name for name in ARRAYS if name not in self.params])

    def target_name(self):
        names = [name for name, kind in self.params.items() if kind == "value"]
        if names and self.random.random() < 0.5:
            return self.pick(names)
        return self.pick([name for name in SCALARS * 4 + SET_SPECIALS if self.params.get(name) != "array"])

    def leaf(self):
        tag = self.pick(["number", "number", "text", "text", "name", "name", "field", "pattern"])
        if tag == "number":
            top, bottom = self.pick(NUMBERS[:-1] if self.random.random() < 0.95 else NUMBERS)
            return (tag, top, bottom) if bottom != 3 else ("op", "/", (tag, 1, 1), (tag, 3, 1))
        if tag == "text":
            return (tag, self.pick(TEXTS))
        if tag == "pattern":
            return (tag, self.pick(PATTERNS))
        if tag == "field":
            return (tag, ("number", self.pick([0, 1, 1, 2, 3]), 1))
        name = self.scalar()
        return (tag, name) if self.params.get(name) != "array" else ("text", "a")

    def keys(self, level):
        return tuple(self.expression(level) for _ in range(self.pick([1, 1, 1, 2])))

    def target(self, level):
        tag = self.pick(["name", "name", "name", "element", "element", "field"])
        if tag == "name":
            return (tag, self.target_name())
        if tag == "element":
            return (tag, self.array(), self.keys(level - 1))
        return (tag, self.leaf() if self.random.random() < 0.5 else ("number", self.pick([0, 1, 2, 4]), 1))

    def expression(self, level):
        if level <= 1 or self.random.random() < 0.15:
            return self.leaf()
        tag = self.pick(INNER)
        part = self.expression(level - 1)
        other = self.expression(level - 1)
        if tag == "element":
            return (tag, self.array(), self.keys(level - 1))
        if tag == "set":
            return self.setting(level)
        if tag == "change":
            return (tag, self.pick("+-*/@^"), self.target(level - 1), part)
        if tag == "step":
            return (tag, self.target(level - 1), self.pick([1, -1]), self.pick([True, False]))
        if tag == "choose":
            return (tag, part, other, self.expression(level - 1))
        if tag == "in":
            return (tag, self.keys(level - 1), self.array())
        if tag == "match":
            return (tag, part, self.pick([other, ("pattern", self.pick(PATTERNS))]), self.pick([True, False]))
        if tag == "compare":
            return (tag, self.pick(["<", "<=", "==", "!=", ">", ">="]), part, other)
        if tag == "op":
            return (tag, self.pick("+-*/@^++--"), part, other)
        if tag in ("or", "and", "join"):
            return (tag, part, other)
        if tag in ("not", "minus", "plus", "field"):
            return (tag, part)
        if tag == "call":
            return self.call(level)
        if tag == "built":
            return self.built(level)
        kind = self.pick(["main", "<", "|"])
        name = ("text", self.pick(["f", "g", "p", "none"]))
        return (tag, kind, None if kind == "main" else name, self.pick([None, self.target(level - 1)]))

    def setting(self, level):
        target = self.target(level - 1)
        part = self.expression(level - 1)
        if target[0] == "name" and target[1] in ("FS", "RS", "OFS", "ORS", "SUBSEP"):
            part = ("text", self.pick(SEPARATORS))
        elif target == ("name", "NF"):
            part = ("number", self.pick([0, 1, 2, 5]), 1)
        return ("set", target, part)

    def call(self, level):
        if not self.heads:
            return self.leaf()
        name = self.pick(sorted(self.heads))
        kinds = list(self.heads[name].values())
        trees = []
        for kind in kinds[:self.random.randrange(len(kinds) + 1)]:
            trees.append(("name", self.array()) if kind == "array" else self.expression(level - 1))
        return ("call", name, tuple(trees))

    def built(self, level):
        word = self.pick(WORDS)
        part = self.expression(level - 1)
        form = self.pick([("pattern", self.pick(PATTERNS)), ("pattern", self.pick(PATTERNS)), self.leaf()])
        if word == "length":
            return ("built", word, self.pick([(), (part,), (("name", self.array()),)]))
        if word == "substr":
            trees = (part, self.leaf()) + self.pick([(), (self.leaf(),)])
        elif word == "split":
            trees = (part, ("name", self.array())) + self.pick([(), (form,), (("text", self.pick(SEPARATORS)),)])
        elif word in ("sub", "gsub"):
            new = ("text", self.pick(["", "x", "&&", "<\\&>"]))
            trees = (form, new) + self.pick([(), (self.target(level - 1),), (self.target(level - 1),)])
        elif word == "match":
            trees = (part, form)
        elif word == "sprintf":
            trees = (("text", self.pick(FORMATS)), part, self.leaf())
        elif word == "index":
            trees = (part, self.leaf())
        else:
            trees = (part,)
        return ("built", word, trees)

    def statement(self, level):
        tags = "expr expr expr expr print print printf exit delete".split()
        if self.loops:
            tags += ["break", "continue"]
        if self.tag == "function":
            tags += ["return", "return"]
        if self.tag in ("always", "when", "range"):
            tags += ["next"]
        if level > 2:
            tags += ["if", "if", "while", "do", "for", "walk", "walk"]
        tag = self.pick(tags)
        part = self.expression(level - 1)
        if tag == "exit" and self.random.random() < 0.5:
            tag = "expr"
        if tag in ("break", "continue", "next"):
            return (tag,)
        if tag == "expr":
            return (tag, part)
        if tag in ("exit", "return"):
            return (tag, self.pick([None, part]))
        if tag == "delete":
            return (tag, self.array(), self.pick([None, self.keys(level - 1), self.keys(level - 1)]))
        if tag == "print":
            return (tag, self.pick([(), (part,), (part, self.leaf())]), self.out())
        if tag == "printf":
            return (tag, (("text", self.pick(FORMATS)), part), self.out())
        if tag == "if":
            return (tag, part, self.body(level - 1), self.pick([(), self.body(level - 1)]))
        self.loops += 1
        body = self.body(level - 1)
        self.loops -= 1
        if tag == "while":
            return (tag, part, body)
        if tag == "do":
            return (tag, body, part)
        if tag == "walk":
            return (tag, self.target_name(), self.array(), body)
        pieces = [self.pick([(), (("expr", self.expression(level - 1)),)]) for _ in range(2)]
        return (tag, pieces[0], self.pick([None, part, part]), pieces[1], body)

    def out(self):
        if self.random.random() < 0.7:
            return None
        return (self.pick([">", ">>", "|"]), ("text", self.pick(["o", "p", "f"])))

    def body(self, level):
        return tuple(self.statement(level) for _ in range(self.pick([1, 1, 2, 2, 3])))

    def rule(self, level):
        self.tag = self.pick(["begin", "end", "always", "always", "when", "when", "range"])
        if self.tag == "when":
            return (self.tag, self.expression(2), self.pick([None, self.body(level)]))
        if self.tag == "range":
            return (self.tag, self.expression(2), self.expression(2), self.pick([None, self.body(level)]))
        return (self.tag, self.body(level))

    def program(self, level):
        self.heads = {}
        for name in NAMES[:self.pick([0, 0, 1, 2, 3])]:
            params = self.random.sample(["p", "q", "x", "a"], self.random.randrange(4))
            self.heads[name] = {param: "array" if param == "a" else self.pick(["value", "array"]) for param in params}
        self.params = {}
        rules = tuple(self.rule(level) for _ in range(self.pick([1, 2, 2, 3])))
        functions = []
        for name, params in self.heads.items():
            self.tag = "function"
            self.params = params
            functions.append((name, tuple(params), self.body(level)))
        return rules, tuple(functions)

    def line(self, most):
        return "".join(self.pick("aab1 ,;\n\n") for _ in range(self.random.randrange(most)))

    def world(self):
        mains = tuple((self.pick(["f", "m"]), self.line(14), self.random.random() < 0.8)
                      for _ in range(self.pick([0, 1, 1, 2, 2, 3])))
        keys = [key for key in [("<", "f"), ("<", "g"), ("|", "f"), ("|", "p")] if self.random.random() < 0.6]
        return (mains, tuple(key + (self.line(8), self.random.random() < 0.8) for key in keys))
