"""Names: the faults of a program."""

from patterndeeds.errors import InvalidProgram, UnsoundProgram
from patterndeeds.shapes import TARGETS
from patterndeeds.signs import is_special
from patterndeeds.standing import function_table, names_at, standings
from patterndeeds.trees import is_program

# For each built-in word the fewest and the most arguments; None stands for any number.
ARGUMENTS = {
    "length": (0, 1), "index": (2, 2), "match": (2, 2), "substr": (2, 3), "split": (2, 3), "sub": (2, 3),
    "gsub": (2, 3), "tolower": (1, 1), "toupper": (1, 1), "int": (1, 1), "close": (1, 1), "sprintf": (1, None),
}


def faults(program):
    """The ascending list of the faults of a program."""
    check_program(program)
    return found_faults(program)


def check_program(program):
    """Raises InvalidProgram unless a value is a program."""
    if not is_program(program):
        raise InvalidProgram("the value is no program")


def check_sound(program):
    """Raises UnsoundProgram if a program has a fault."""
    if found_faults(program):
        raise UnsoundProgram("the program has a fault")


def found_faults(program):
    """The ascending list of the faults of what surely is a program."""
    functions = function_table(program)
    rows = head_faults(program, functions)
    for standing in standings(program):
        rows.extend([(standing.place, word, name) for word, name in faults_at(standing, functions)])
    return sorted(set(rows))


def head_faults(program, functions):
    """The faults of the heads of the functions."""
    rows = []
    seen = {}
    for name, params, _ in program[1]:
        if name in seen:
            rows.append((0, "twice", name))
        seen[name] = True
        if is_special(name):
            rows.append((0, "head", name))
        for param in params:
            if is_special(param) or param in functions or params.count(param) > 1:
                rows.append((0, "head", param))
    return rows


def faults_at(standing, functions):
    """The list of tuples (word, name) of the faults of a tree itself."""
    tree = standing.tree
    tag = tree[0]
    if tag == "call":
        return call_faults(tree, functions)
    if tag == "built":
        return built_faults(tree)
    if tag == "break" or tag == "continue":
        if not standing.looped:
            return [("loop", tag)]
    elif tag == "return":
        if standing.function is None:
            return [("return", tag)]
    elif tag == "next":
        if standing.function is not None or standing.rule == "begin" or standing.rule == "end":
            return [("next", tag)]
    return [("variable", name) for _, name in names_at(tree) if name in functions]


def call_faults(tree, functions):
    """The faults of a call of a function."""
    _, name, trees = tree
    if name not in functions:
        return [("unknown", name)]
    if len(trees) > len(functions[name][1]):
        return [("many", name)]
    return []


def built_faults(tree):
    """The faults of a call of a built-in word."""
    _, word, trees = tree
    fewest, most = ARGUMENTS[word]
    if len(trees) < fewest or most is not None and len(trees) > most:
        return [("built", word)]
    if word == "split" and trees[1][0] != "name":
        return [("built", word)]
    if (word == "sub" or word == "gsub") and len(trees) == 3 and trees[2][0] not in TARGETS:
        return [("built", word)]
    return []
