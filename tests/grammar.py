"""The grammar of the document as a table, to hold the parser against.

GRAMMAR maps each nonterminal to a list of (symbols, action). A symbol that is no nonterminal is a
terminal: a kind of word, `length`, or the text of a symbol or key. The action makes the value of
the nonterminal from the values of its symbols; that of a terminal is the text of its word.
"""

from patterndeeds.decimals import decimal_of

GRAMMAR = {}
COMPARERS = ["<", "<=", "==", "!=", ">", ">="]
# Texts that would be something else, were they no texts.
MARKS = ["+", "-", "<", ">", "==", "~", "&&", "||", "|", "?", ":", "=", "+=", "++", "--", "$", "!", "(", ")", "[", "]",
        "{", "}", ";", ",", "in", "getline",
         "if", "else", "while", "print", "x", "length", "f", "1", "\n", "BEGIN", "function"]


def rule(name, symbols, action=None):
    GRAMMAR.setdefault(name, []).append((symbols.split(), action or (lambda *values: values[0])))


def name_tree(name):
    return ("name", name)


def number_tree(text):
    return ("number",) + decimal_of(text)


def is_match(sign):
    return sign == "!~"


def binary(tag):
    return lambda a, sign, b: (tag, sign, a, b)


def logical(tag):
    return lambda a, sign, lines, b: (tag, a, b)


def expressions(v):
    """The levels E to P; v is "p" within the list of a print outside of brackets, else ""."""
    rule("E" + v, "target = E" + v, lambda t, sign, e: ("set", t, e))
    for sign in "+-*/@^":
        rule("E" + v, "target " + sign + "= E" + v, lambda t, s, e: ("change", s[0], t, e))
    rule("E" + v, "T" + v)
    rule("T" + v, "O" + v)
    rule("T" + v, "O%s ? E%s : T%s" % (v, v, v), lambda c, q, a, d, b: ("choose", c, a, b))
    rule("O" + v, "A" + v)
    rule("O" + v, "O%s || lines A%s" % (v, v), logical("or"))
    rule("A" + v, "I" + v)
    rule("A" + v, "A%s && lines I%s" % (v, v), logical("and"))
    rule("I" + v, "M" + v)
    rule("I" + v, "I%s in name" % v, lambda a, key, n: ("in", (a,), n))
    rule("I" + v, "many in name", lambda keys, key, n: ("in", keys, n))
    rule("M" + v, "C" + v)
    for sign in ["~", "!~"]:
        rule("M" + v, "C%s %s C%s" % (v, sign, v), lambda a, s, b: ("match", a, b, s == "!~"))
    for left in ["Pg", "Pf", "PJ" + v]:
        rule("C" + v, left)
        for sign in COMPARERS:
            if (sign != ">" or v == "") and (sign != "<" or left != "Pg"):
                rule("C" + v, "%s %s P%s" % (left, sign, v), binary("compare"))
        rule("P" + v, left)
    rule("PJ" + v, "J")


def reads():
    rule("Pg", "getline", lambda g: ("getline", "main", None, None))
    rule("Pg", "getline target", lambda g, t: ("getline", "main", None, t))
    rule("Pf", "getline < D", lambda g, s, d: ("getline", "<", d, None))
    rule("Pf", "getline target < D", lambda g, t, s, d: ("getline", "<", d, t))
    rule("PJ", "PJ | getline", lambda e, s, g: ("getline", "|", e, None))
    rule("PJ", "PJ | getline target", lambda e, s, g, t: ("getline", "|", e, t))


def operations(v, part):
    """The levels S to D; v is "'" for what a join may have at its right."""
    rule("S" + v, "X" + v)
    rule("X" + v, "U" + v)
    for sign in "+-":
        rule("S" + v, "S%s %s X" % (v, sign), binary("op"))
    for sign in "*/@":
        rule("X" + v, "X%s %s U" % (v, sign), binary("op"))
    rule("U" + v, "W" + v)
    rule("W" + v, "Q" + v)
    rule("W" + v, "Q%s ^ U" % v, binary("op"))
    rule("Q" + v, "target ++", lambda t, s: ("step", t, 1, False))
    rule("Q" + v, "target --", lambda t, s: ("step", t, -1, False))
    rule("Q" + v, part)


def parts():
    rule("J", "S")
    rule("J", "J S'", lambda a, b: ("join", a, b))
    operations("", "D")
    operations("'", "D'")
    rule("U", "! U", lambda s, u: ("not", u))
    rule("U", "- U", lambda s, u: ("minus", u))
    rule("U", "+ U", lambda s, u: ("plus", u))
    for name in ["Q", "F"]:
        rule(name, "++ target", lambda s, t: ("step", t, 1, True))
        rule(name, "-- target", lambda s, t: ("step", t, -1, True))
    rule("F", "D")
    rule("D", "pattern", lambda s: ("pattern", s))
    rule("D", "D'")
    rule("D'", "number", number_tree)
    rule("D'", "text", lambda s: ("text", s))
    rule("D'", "target")
    rule("D'", "call ( )", lambda f, a, b: ("call", f, ()))
    rule("D'", "call ( list )", lambda f, a, es, b: ("call", f, es))
    rule("D'", "built ( )", lambda f, a, b: ("built", f, ()))
    rule("D'", "built ( list )", lambda f, a, es, b: ("built", f, es))
    rule("D'", "length", lambda f: ("built", f, ()))
    rule("D'", "( E )", lambda a, e, b: e)
    rule("target", "name", name_tree)
    rule("target", "name [ list ]", lambda n, a, es, b: ("element", n, es))
    rule("target", "$ F", lambda s, f: ("field", f))
    rule("many", "( E , lines list )", lambda a, e, c, x, es, b: (e,) + es)
    for v in ["", "p"]:
        rule("list" + v, "E" + v, lambda e: (e,))
        rule("list" + v, "list%s , lines E%s" % (v, v), lambda es, c, x, e: es + (e,))


def rows(lined):
    rule("lines", "", lambda: None)
    rule("seps", "", lambda: None)
    if lined:
        rule("lines", "lines line", lambda a, b: None)
        rule("seps", "seps sep", lambda a, b: None)
    rule("sep", "line")
    rule("sep", ";")
    rule("gap:c", "lines")
    rule("gap:c", "lines ; lines")
    rule("gap:o", "line lines")
    rule("gap:o", "lines ; lines")


def statements(kind):
    """Statements that end closed (kind "c") or open ("o"), and such that can take no else (".")."""
    for more in ["", "."]:
        name = "st:" + kind + more
        body = "body:" + kind + more
        rule(name, "while ( E ) " + body, lambda k, a, e, b, body: [("while", e, body)])
        rule(name, "for ( name in name ) " + body, lambda k, a, n, i, m, b, body: [("walk", n, m, body)])
        rule(name, "for ( part ; test ; part ) " + body,
             lambda k, a, f, s1, e, s2, t, b, body: [("for", f, e, t, body)])
        for inner in "co":
            rule(name, "if ( E ) body:%s. gap:%s else %s" % (inner, inner, body),
                 lambda k, a, e, b, body, g, x, other: [("if", e, body, other)])
        rule(body, "lines " + name, lambda x, st: tuple(st))
    name = "st:" + kind
    rule(name, "if ( E ) body:" + kind, lambda k, a, e, b, body: [("if", e, body, ())])


def simple_statements():
    rule("part", "", lambda: ())
    rule("part", "E", lambda e: (("expr", e),))
    rule("test", "", lambda: None)
    rule("test", "E")
    for more in ["", "."]:
        rule("body:c" + more, "lines ;", lambda x, s: ())
        rule("st:c" + more, "block", lambda body: list(body))
        rule("st:o" + more, "simple", lambda st: [st])
    for kind in "co":
        rule("simple", "do body:%s gap:%s while ( E )" % (kind, kind), lambda d, body, g, w, a, e, b: ("do", body, e))
    rule("simple", "E", lambda e: ("expr", e))
    for key in ["break", "continue", "next"]:
        rule("simple", key, lambda k: (k,))
    for key in ["exit", "return"]:
        rule("simple", key, lambda k: (k, None))
        rule("simple", key + " E", lambda k, e: (k, e))
    rule("simple", "delete name", lambda k, n: ("delete", n, None))
    rule("simple", "delete name [ list ]", lambda k, n, a, es, b: ("delete", n, es))
    rule("simple", "print out", lambda k, out: (k, (), out))
    rule("simple", "print exprs out", lambda k, es, out: (k, es, out))
    rule("simple", "printf exprs out", lambda k, es, out: (k, es, out))
    rule("exprs", "listp")
    rule("exprs", "many")
    rule("out", "", lambda: None)
    for sign in [">", ">>", "|"]:
        rule("out", sign + " J", lambda s, e: (s, e))


def programs():
    rule("block", "{ seps sts }", lambda a, x, body, b: tuple(body))
    rule("sts", "", lambda: [])
    rule("sts", "st:c seps sts", lambda st, x, more: st + more)
    rule("sts", "st:o")
    rule("sts", "st:o sep seps sts", lambda st, s, x, more: st + more)
    rule("program", "seps items", lambda x, items: (tuple(i[1] for i in items if i[0] == "rule"),
                                                    tuple(i[1] for i in items if i[0] == "function")))
    rule("items", "", lambda: [])
    rule("items", "item:c seps items", lambda i, x, more: [i] + more)
    rule("items", "item:o", lambda i: [i])
    rule("items", "item:o sep seps items", lambda i, s, x, more: [i] + more)
    for f in ["name", "call"]:
        rule("item:c", "function %s ( params ) lines block" % f,
             lambda k, f, a, ps, b, x, body: ("function", (f, ps, body)))
    rule("params", "", lambda: ())
    rule("params", "names")
    rule("names", "name", lambda n: (n,))
    rule("names", "names , lines name", lambda ns, c, x, n: ns + (n,))
    rule("item:c", "BEGIN block", lambda k, body: ("rule", ("begin", body)))
    rule("item:c", "END block", lambda k, body: ("rule", ("end", body)))
    rule("item:c", "block", lambda body: ("rule", ("always", body)))
    rule("item:c", "E block", lambda e, body: ("rule", ("when", e, body)))
    rule("item:o", "E", lambda e: ("rule", ("when", e, None)))
    rule("item:c", "E , lines E block", lambda e, c, x, d, body: ("rule", ("range", e, d, body)))
    rule("item:o", "E , lines E", lambda e, c, x, d: ("rule", ("range", e, d, None)))


def grammar(lined):
    """The whole table; without lines for expression_of."""
    GRAMMAR.clear()
    for v in ["", "p"]:
        expressions(v)
    reads()
    parts()
    rows(lined)
    for kind in "co":
        statements(kind)
    simple_statements()
    programs()
    return {name: list(rules) for name, rules in GRAMMAR.items()}


def terminals(word):
    """The terminals that a word is."""
    kind, text = word
    if kind in ("symbol", "key"):
        return [text]
    if word == ("built", "length"):
        return [kind, text]
    return [kind]


class Recognizer:
    """An Earley recognizer: how many words begin a sentence, and whether all of them are one."""

    def __init__(self, table, start):
        self.rules = [(name, tuple(symbols)) for name, rules in table.items() for symbols, _ in rules]
        self.of = {}
        for at, (name, _) in enumerate(self.rules):
            self.of.setdefault(name, []).append(at)
        self.start = start
        self.nullable = set()
        size = -1
        while size != len(self.nullable):
            size = len(self.nullable)
            for name, symbols in self.rules:
                if all(symbol in self.nullable for symbol in symbols):
                    self.nullable.add(name)

    def fill(self, sets, at):
        """Completes the item set at an index; the items that wait for each symbol."""
        items, waiting = sets[at]
        queue = list(items)
        while queue:
            item = queue.pop()
            number, dot, origin = item
            name, symbols = self.rules[number]
            fresh = []
            if dot == len(symbols):
                fresh = [(n, d + 1, o) for n, d, o in list(sets[origin][1].get(name, []))]
            else:
                symbol = symbols[dot]
                waiting.setdefault(symbol, []).append(item)
                fresh = [(n, 0, at) for n in self.of.get(symbol, [])]
                if symbol in self.nullable:
                    fresh.append((number, dot + 1, origin))
            for one in fresh:
                if one not in items:
                    items.add(one)
                    queue.append(one)

    def run(self, words):
        """A tuple: how many of the words begin those of a sentence; whether they are one."""
        sets = [({(n, 0, 0) for n in self.of[self.start]}, {})]
        self.fill(sets, 0)
        for at, word in enumerate(words):
            moved = set()
            for terminal in terminals(word):
                moved.update((n, d + 1, o) for n, d, o in sets[at][1].get(terminal, []) if terminal not in self.of)
            if not moved:
                return at, False
            sets.append((moved, {}))
            self.fill(sets, at + 1)
        whole = any(o == 0 and self.rules[n][0] == self.start and d == len(self.rules[n][1])
                    for n, d, o in sets[-1][0])
        return len(words), whole


class Maker:
    """Makes random sentences of the grammar, with their values."""

    def __init__(self, table, random):
        self.table = table
        self.random = random
        self.cost = {}
        changed = True
        while changed:
            changed = False
            for name, rules in table.items():
                best = min([self.cost_of(symbols) for symbols, _ in rules])
                if best < self.cost.get(name, 10 ** 6):
                    self.cost[name] = best
                    changed = True

    def cost_of(self, symbols):
        """The fewest words of what the symbols stand for."""
        return sum(self.cost.get(symbol, 10 ** 6) if symbol in self.table else 1 for symbol in symbols)

    def choose(self, name, budget):
        """One of the rules of a nonterminal; more often one that only passes on to another."""
        rules = self.table[name]
        if budget > 0 and name in ("items", "sts"):
            rules = [one for one in rules if one[0] != []]
        if self.random.random() < 0.85:
            rules = [one for one in rules if one[0][:1] not in (["Pg"], ["Pf"])] or rules
        if budget <= 0:
            best = min(self.cost_of(symbols) for symbols, _ in rules)
            return self.random.choice([one for one in rules if self.cost_of(one[0]) == best])
        passing = [one for one in rules if len(one[0]) == 1 and one[0][0] in self.table]
        if passing and self.random.random() < 0.75:
            return self.random.choice(passing)
        return self.random.choice(rules)

    def make(self, name, budget):
        """A tuple (words, value) of a sentence of a nonterminal, shorter with a smaller budget."""
        symbols, action = self.choose(name, budget)
        many = len([symbol for symbol in symbols if symbol in self.table])
        words = []
        values = []
        for symbol in symbols:
            if symbol in self.table:
                share = budget if len(symbols) == 1 else self.random.randrange(max(1, budget))
                more, value = self.make(symbol, share if many < 3 else share * 2 // 3)
            else:
                word = self.word(symbol)
                more, value = [word], word[1]
            words.extend(more)
            values.append(value)
        return words, action(*values)

    def word(self, terminal):
        pick = self.random.choice
        if terminal == "name":
            return ("name", pick(["x", "y", "n", "NF"]))
        if terminal == "call":
            return ("call", pick(["f", "g"]))
        if terminal == "number":
            return ("number", pick(["1", "2", ".5", "7.25"]))
        if terminal == "text":
            return ("text", pick(["", "a", "\n\"\\", pick(MARKS)]))
        if terminal == "pattern":
            return ("pattern", pick(["", "a/b", "\\.", pick(MARKS).strip()]))
        if terminal == "built":
            return ("built", pick(["substr", "length", "close"]))
        if terminal == "length":
            return ("built", "length")
        if terminal == "line":
            return ("line", "\n")
        if terminal.isalpha():
            return ("key", terminal)
        return ("symbol", terminal)
