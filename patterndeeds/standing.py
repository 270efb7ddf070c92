"""What stands in a program: its places, its names and its trees."""

from patterndeeds.shapes import bodies_of, expressions_in, names_in, parts_of, statements_of


def places_in(trees):
    """How many places there are in some rules or statements."""
    many = len(trees)
    for tree in trees:
        many += len(statements_of(bodies_of(tree)))
    return many


def all_names(program):
    """A dict of True by the names that stand in a program, those of heads included."""
    found = []
    names_in(program[0], found)
    for name, params, body in program[1]:
        found.append(name)
        found.extend(params)
        names_in(body, found)
    return {name: True for name in found}


def all_expressions(program):
    """The list of all expressions of a program."""
    waiting = []
    for tree in all_statements(program):
        waiting.extend(expressions_in(tree))
    found = []
    while waiting:
        tree = waiting.pop()
        found.append(tree)
        waiting.extend(parts_of(tree))
    return found


def all_statements(program):
    """The list of all rules and statements of a program."""
    bodies = [function[2] for function in program[1]]
    for rule in program[0]:
        bodies.extend(bodies_of(rule))
    return list(program[0]) + statements_of(bodies)
