"""What the document says of names, kinds, calls and renaming, worked out in another way.

Trees are told from other tuples by their first entry alone; names are replaced in the words of the
printed text.
"""

from patterndeeds.parser import program_of
from patterndeeds.printer import program_text
from patterndeeds.words import source_of, words_of

SPECIALS = "FILENAME FNR FS NF NR OFS ORS RLENGTH RS RSTART SUBSEP".split()
STATEMENTS = "expr print printf if while do for walk break continue next exit return delete".split()
RULES = "begin end always when range".split()
EXPRESSIONS = """number text pattern name element field set change step choose or and in match compare join op
not minus plus call built getline""".split()
TAGS = set(STATEMENTS + RULES + EXPRESSIONS)
COUNTS = {"length": [0, 1], "index": [2], "match": [2], "substr": [2, 3], "split": [2, 3], "sub": [2, 3],
        "gsub": [2, 3], "tolower": [1],
          "toupper": [1], "int": [1], "close": [1]}
LOOPS = ["while", "do", "for", "walk"]


def children(part):
    """The trees that are the parts of a tree, or that stand in a tuple that is none."""
    rows = []
    for one in part:
        if type(one) is tuple and one and type(one[0]) is str and one[0] in TAGS:
            rows.append(one)
        elif type(one) is tuple:
            rows.extend(children(one))
    return rows


class Node:
    """A tree with all that stands above it, the rule or function first."""

    def __init__(self, tree, place, owner, above, index):
        self.tree, self.place, self.owner, self.above, self.index = tree, place, owner, above, index
        self.parent = above[-1] if above else None


def nodes(program):
    """The nodes of all trees of a program."""
    rows = []
    count = [0]

    def visit(tree, place, owner, above, index):
        if tree[0] not in EXPRESSIONS:
            count[0] += 1
            place = count[0]
        rows.append(Node(tree, place, owner, above, index))
        for at, child in enumerate(children(tree[1:])):
            visit(child, place, owner, above + [tree], at)

    for rule in program[0]:
        visit(rule, 0, None, [], 0)
    for function in program[1]:
        for at, statement in enumerate(function[2]):
            visit(statement, 0, function, [], at)
    return rows


def variables(tree):
    """The names that stand in a tree itself as variables, with how they stand."""
    tag = tree[0]
    if tag == "name":
        return [("name", tree[1])]
    if tag == "element" or tag == "delete":
        return [("array", tree[1])]
    if tag == "in":
        return [("array", tree[2])]
    if tag == "walk":
        return [("walk", tree[1]), ("array", tree[2])]
    return []


def faults_of(program):
    functions = [function[0] for function in program[1]]
    first = {function[0]: function for function in program[1][::-1]}
    rows = set()
    for name, params, _ in program[1]:
        if functions.count(name) > 1:
            rows.add((0, "twice", name))
        rows.update((0, "head", one) for one in [name] if one in SPECIALS)
        rows.update((0, "head", one) for one in params if one in SPECIALS or one in functions or params.count(one) > 1)
    for node in nodes(program):
        tree, tag = node.tree, node.tree[0]
        rows.update((node.place, "variable", name) for _, name in variables(tree) if name in functions)
        if tag == "call" and tree[1] not in functions:
            rows.add((node.place, "unknown", tree[1]))
        elif tag == "call" and len(tree[2]) > len(first[tree[1]][1]):
            rows.add((node.place, "many", tree[1]))
        if tag == "built" and not built_holds(tree):
            rows.add((node.place, "built", tree[1]))
        if tag in ("break", "continue") and not any(one[0] in LOOPS for one in node.above):
            rows.add((node.place, "loop", tag))
        if tag == "return" and node.owner is None:
            rows.add((node.place, "return", tag))
        if tag == "next" and (node.owner is not None or node.above[0][0] in ("begin", "end")):
            rows.add((node.place, "next", tag))
    return sorted(rows)


def built_holds(tree):
    _, word, trees = tree
    if word == "sprintf":
        return len(trees) > 0
    if len(trees) not in COUNTS[word]:
        return False
    if word == "split":
        return trees[1][0] == "name"
    return word not in ("sub", "gsub") or len(trees) == 2 or trees[2][0] in ("name", "element", "field")


def slot(owner, name):
    return (owner[0], name) if owner is not None and name in owner[1] else ("", name)


def uses_and_links(program):
    heads = {function[0]: function[1] for function in program[1]}
    uses = {(0, ("", name), "value") for name in SPECIALS}
    links = set()
    for node in nodes(program):
        for how, name in variables(node.tree):
            one = slot(node.owner, name)
            parent = node.parent if node.parent is not None else ("",)
            if how == "array":
                uses.add((node.place, one, "array"))
            elif how == "walk" or parent[0] not in ("built", "call"):
                uses.add((node.place, one, "value"))
            elif parent[0] == "call":
                links.add((node.place, one, (parent[1], heads[parent[1]][node.index])))
            elif parent[1] == "length":
                uses.add((node.place, one, "open"))
            elif parent[1] == "split" and node.index == 1:
                uses.add((node.place, one, "array"))
            else:
                uses.add((node.place, one, "value"))
        if node.tree[0] == "call":
            for param, tree in zip(heads[node.tree[1]], node.tree[2]):
                if tree[0] != "name":
                    uses.add((node.place, (node.tree[1], param), "value"))
    return sorted(uses), sorted(links)


def slots_of(program):
    uses, links = uses_and_links(program)
    slots = {use[1] for use in uses} | {one for link in links for one in link[1:]}
    return sorted(slots | {(function[0], param) for function in program[1] for param in function[1]})


def distances(program):
    """A dict of the fewest links between each two slots that are tied."""
    slots = slots_of(program)
    found = {(one, one): 0 for one in slots}
    pairs = {link[1:] for link in uses_and_links(program)[1]}
    pairs |= {(b, a) for a, b in pairs}
    changed = True
    while changed:
        changed = False
        for (a, b), many in list(found.items()):
            for c, d in pairs:
                if b == c and found.get((a, d), 10 ** 6) > many + 1:
                    found[(a, d)] = many + 1
                    changed = True
    return found


def fewest_in_chain(program):
    """How many slots a shortest clash chain has, None without one."""
    uses = uses_and_links(program)[0]
    arrays = {use[1] for use in uses if use[2] == "array"}
    values = {use[1] for use in uses if use[2] == "value"}
    return min([many + 1 for (a, b), many in distances(program).items() if a in arrays and b in values], default=None)


def kinds_of(program):
    uses = uses_and_links(program)[0]
    far = distances(program)
    rows = []
    for one in slots_of(program):
        hows = {use[2] for use in uses if (one, use[1]) in far}
        rows.append((one, "array" if "array" in hows else "value" if "value" in hows else "open"))
    return rows


def calls_of(program):
    return sorted({(node.owner[0] if node.owner else "",
            node.tree[1]) for node in nodes(program) if node.tree[0] == "call"})


def rows_of_calls(program, longest):
    """All rows of functions of which a rule calls the first and each calls the next, up to a length."""
    calls = calls_of(program)
    rows = [[called] for caller, called in calls if caller == ""]
    found = []
    while rows:
        found.extend(rows)
        rows = [row + [called] for row in rows if len(row) < longest for caller, called in calls if caller == row[-1]]
    return found


def stands(program):
    """All names that stand in a program."""
    return sorted({word[1] for word in words_of(program_text(program)) if word[0] in ("name", "call")})


def head_of(words, at):
    """The name, the parameters and the end of the function that begins at an index, None if none does."""
    if words[at] != ("key", "function"):
        return None
    end = words.index(("symbol", ")"), at)
    return words[at + 1][1], [word[1] for word in words[at + 2:end] if word[0] == "name"], end


def with_words(program, change):
    """A program whose names, with the parameters around each, are changed in its printed text."""
    words = words_of(program_text(program))
    params = []
    changed = []
    for at, word in enumerate(words):
        head = head_of(words, at)
        if head is not None:
            params = head[1]
        if word[0] in ("name", "call"):
            word = (word[0], change(word[1], params))
        changed.append(word)
    return program_of(source_of(changed))


def plain_of(program):
    functions = [function[0] for function in program[1]]
    words = words_of(program_text(program))
    params = []
    others = []
    for at, word in enumerate(words):
        head = head_of(words, at)
        if head is not None:
            params = head[1]
        if word[0] in ("name", "call") and word[1] not in params + functions + SPECIALS + others:
            others.append(word[1])

    def change(name, around):
        if name in around:
            return "p%d" % (around.index(name) + 1)
        if name in functions:
            return "f%d" % (functions.index(name) + 1)
        if name in SPECIALS:
            return name
        return "v%d" % (others.index(name) + 1)

    return with_words(program, change)
