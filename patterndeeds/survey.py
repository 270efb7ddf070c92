"""A survey of a program: how its names are used, what it calls, and its faults, all in one pass."""

from patterndeeds.shapes import ROWS, SINGLES, TARGETS, expressions_in
from patterndeeds.signs import is_special

# For each built-in word the fewest and the most arguments; None stands for any number.
ARGUMENTS = {
    "length": (0, 1), "index": (2, 2), "match": (2, 2), "substr": (2, 3), "split": (2, 3), "sub": (2, 3),
    "gsub": (2, 3), "tolower": (1, 1), "toupper": (1, 1), "int": (1, 1), "close": (1, 1), "sprintf": (1, None),
}
LOOPS = ("while", "do", "for", "walk")
JUMPS = ("break", "continue", "next", "return")
NEXTLESS = ("function", "begin", "end")


class Survey:
    """What stands where in a program.

    uses has the tuples (place, slot, how) of the names that stand there, handed those of parameters
    to which a call hands something else than a name; links the tuples (place, slot, slot of a
    parameter); calls the tuples (caller, called), caller empty in a rule; faults the tuples (place,
    word, name); each in any sequence, perhaps several times. functions has the functions by their
    names, of each name the first one.
    """

    def __init__(self, program):
        self.uses = []
        self.handed = []
        self.links = []
        self.calls = []
        self.faults = []
        self.functions = {}
        for function in program[1]:
            self.functions.setdefault(function[0], function)
        self.at_place = 0
        self.caller = ""
        self.rule = ""
        self.slots = {}
        for rule in program[0]:
            self.take_rule(rule)
        self.rule = "function"
        for function in program[1]:
            self.take_function(function)
        self.note_variables()

    def take_rule(self, rule):
        """Looks at a rule."""
        self.rule = rule[0]
        self.at_place += 1
        self.take(expressions_in(rule), self.at_place)
        if rule[-1] is not None:
            self.take_body(rule[-1], False)

    def take_function(self, function):
        """Looks at a function."""
        name, params, body = function
        self.caller = name
        self.slots = {param: (name, param) for param in params}
        self.take_body(body, False)

    def take_body(self, body, looped):
        """Looks at the statements of a body, which perhaps stands in a loop."""
        for statement in body:
            self.at_place += 1
            tag = statement[0]
            self.take(expressions_in(statement), self.at_place)
            if tag == "if":
                self.take_body(statement[2], looped)
                self.take_body(statement[3], looped)
            elif tag in LOOPS:
                self.take_loop(statement)
            elif tag == "delete":
                self.uses.append((self.at_place, self.slot(statement[1]), "array"))
            elif tag in JUMPS:
                self.take_jump(tag, looped)

    def take_loop(self, statement):
        """Looks at the bodies of a loop."""
        tag = statement[0]
        if tag == "do":
            self.take_body(statement[1], True)
            return
        if tag == "for":
            self.take_body(statement[1], True)
            self.take_body(statement[3], True)
        elif tag == "walk":
            self.uses.append((self.at_place, self.slot(statement[1]), "value"))
            self.uses.append((self.at_place, self.slot(statement[2]), "array"))
        self.take_body(statement[-1], True)

    def take_jump(self, tag, looped):
        """Looks at what may stand at certain places only."""
        if tag == "return":
            if self.rule != "function":
                self.faults.append((self.at_place, "return", tag))
        elif tag == "next":
            if self.rule in NEXTLESS:
                self.faults.append((self.at_place, "next", tag))
        elif not looped:
            self.faults.append((self.at_place, "loop", tag))

    def slot(self, name):
        """The slot of a variable."""
        if name in self.slots:
            return self.slots[name]
        return ("", name)

    def take(self, waiting, place):
        """Looks at some expressions, a new list, that stand at a place."""
        while waiting:
            tree = waiting.pop()
            tag = tree[0]
            if tag == "name":
                self.uses.append((place, self.slot(tree[1]), "value"))
            elif tag == "call":
                waiting.extend(self.take_call(tree, place))
            elif tag == "built":
                waiting.extend(self.take_built(tree, place))
            elif tag == "getline":
                waiting.extend([part for part in tree[2:] if part is not None])
            elif tag in ROWS:
                name = tree[1]
                if tag == "in":
                    name = tree[2]
                self.uses.append((place, self.slot(name), "array"))
                waiting.extend(tree[ROWS[tag]])
            else:
                for at in SINGLES[tag]:
                    waiting.append(tree[at])

    def take_call(self, tree, place):
        """Looks at a call; the arguments that are not only names."""
        _, name, trees = tree
        self.calls.append((self.caller, name))
        if name not in self.functions:
            self.faults.append((place, "unknown", name))
            return trees
        params = self.functions[name][1]
        if len(trees) > len(params):
            self.faults.append((place, "many", name))
            return trees
        left = []
        for param, part in zip(params, trees):
            if part[0] == "name":
                self.links.append((place, self.slot(part[1]), (name, param)))
            else:
                self.handed.append((place, (name, param), "value"))
                left.append(part)
        return left

    def take_built(self, tree, place):
        """Looks at a call of a built-in word; the arguments that are not only names in a special way."""
        _, word, trees = tree
        fewest, most = ARGUMENTS[word]
        if len(trees) < fewest or most is not None and len(trees) > most:
            self.faults.append((place, "built", word))
        elif word == "length":
            if trees and trees[0][0] == "name":
                self.uses.append((place, self.slot(trees[0][1]), "open"))
                return ()
        elif word == "split":
            if trees[1][0] == "name":
                self.uses.append((place, self.slot(trees[1][1]), "array"))
                return trees[:1] + trees[2:]
            self.faults.append((place, "built", word))
        elif len(trees) == 3 and word != "substr" and word != "sprintf" and trees[2][0] not in TARGETS:
            self.faults.append((place, "built", word))
        return trees

    def note_variables(self):
        """Notes the faults of names of functions that stand as variables."""
        rows = [(place, slot[1]) for place, slot, _ in self.uses + self.links]
        self.faults.extend([(place, "variable", name) for place, name in rows if name in self.functions])


def head_faults(program, functions):
    """The faults of the heads of the functions of a program."""
    rows = []
    seen = {}
    for name, params, _ in program[1]:
        if name in seen:
            rows.append((0, "twice", name))
        seen[name] = True
        if is_special(name):
            rows.append((0, "head", name))
        for param in params:
            if is_special(param) or param in functions or params.count(param) > 1:
                rows.append((0, "head", param))
    return rows
