"""Where the trees and the names of a program stand."""

from patterndeeds.shapes import EXPRESSIONS, NAME_ROLES, parts_of, roles_of, trees_in

LOOPS = {"while": True, "do": True, "for": True, "walk": True}


class Standing:
    """A tree of a program: its place, the rule and function around it, whether a loop is.

    rule is the tag of the rule, empty in a function; function is None in a rule. above is the
    expression of which the tree is a part, None if it is a part of a rule or statement; at is its
    index among the parts there.
    """

    def __init__(self, tree, rule, function):
        self.tree = tree
        self.rule = rule
        self.function = function
        self.place = 0
        self.looped = False
        self.above = None
        self.at = 0


def standings(program):
    """The list of all trees of a program, in the sequence of their places."""
    found = []
    waiting = []
    for function in program[1][::-1]:
        waiting.extend([Standing(tree, "", function) for tree in function[2][::-1]])
    waiting.extend([Standing(rule, rule[0], None) for rule in program[0][::-1]])
    place = 0
    while waiting:
        standing = waiting.pop()
        if standing.tree[0] not in EXPRESSIONS:
            place += 1
            standing.place = place
        found.append(standing)
        waiting.extend(standings_below(standing)[::-1])
    return found


def standings_below(standing):
    """The parts of a tree, as they stand; statements get their places later."""
    tree = standing.tree
    above = None
    if tree[0] in EXPRESSIONS:
        above = tree
    looped = standing.looped or tree[0] in LOOPS
    rows = []
    for at, part in enumerate(parts_of(tree)):
        below = Standing(part, standing.rule, standing.function)
        below.place = standing.place
        below.looped = looped
        below.above = above
        below.at = at
        rows.append(below)
    return rows


def names_at(tree):
    """The list of tuples (role, name) of the names that stand in a tree itself."""
    return [(role, name) for role, name in zip(roles_of(tree), tree[1:]) if role in NAME_ROLES]


def slot_of(function, name):
    """The slot of a variable that stands in a function, or in a rule (None)."""
    if function is not None and name in function[1]:
        return (function[0], name)
    return ("", name)


def function_table(program):
    """A dict of the functions of a program by their names, of each name the first one."""
    table = {}
    for function in program[1]:
        table.setdefault(function[0], function)
    return table


def printed_names(trees):
    """The list of tuples (role, name) in the sequence in which the printed text has them."""
    names = []
    waiting = [("tree", tree) for tree in trees[::-1]]
    while waiting:
        role, piece = waiting.pop()
        if role == "tree":
            waiting.extend(printed_pieces(piece)[::-1])
        else:
            names.append((role, piece))
    return names


def printed_pieces(tree):
    """The names and trees in a tree, as tuples (role, name) or ("tree", tree), in printed sequence."""
    pieces = []
    for role, value in zip(roles_of(tree), tree[1:]):
        if role in NAME_ROLES:
            pieces.append((role, value))
        else:
            pieces.extend([("tree", part) for part in trees_in(role, value)])
    if tree[0] == "getline" and tree[1] == "<":
        return pieces[::-1]
    return pieces


def all_names(program):
    """A dict of True by the names that stand in a program, those of heads included."""
    names = {}
    trees = list(program[0])
    for name, params, body in program[1]:
        names[name] = True
        for param in params:
            names[param] = True
        trees.extend(body)
    for _, name in printed_names(trees):
        names[name] = True
    return names


def places_in(trees):
    """How many places there are in some rules or statements."""
    many = 0
    waiting = list(trees)
    while waiting:
        tree = waiting.pop()
        if tree[0] not in EXPRESSIONS:
            many += 1
            waiting.extend(parts_of(tree))
    return many
