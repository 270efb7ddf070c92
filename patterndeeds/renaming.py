"""Renaming: programs with other names, and what is alike but for the names."""

from patterndeeds.errors import InvalidFunction, InvalidNames, NotFitting, UnknownFunction
from patterndeeds.kinds import Slots
from patterndeeds.names import check_program, surveyed
from patterndeeds.shapes import names_in, with_names
from patterndeeds.signs import is_name, is_special
from patterndeeds.standing import all_names
from patterndeeds.trees import are_names


def are_pairs(value):
    """Whether any value is a list of pairs (old, new) of names that are not special."""
    if type(value) is not list:
        return False
    seen = {}
    for pair in value:
        if not are_names(pair) or len(pair) != 2 or is_special(pair[0]) or is_special(pair[1]):
            return False
        if pair[0] in seen:
            return False
        seen[pair[0]] = True
    return True


def renamed(program, pairs):
    """The program with the new names of pairs that fit it."""
    check_program(program)
    if not are_pairs(pairs):
        raise InvalidNames("the value is no list of pairs")
    surveyed(program)
    table = dict(pairs)
    if not are_fitting_names(program, table):
        raise NotFitting("the pairs do not fit the program")
    return program_with_names(program, table)


def are_fitting_names(program, table):
    """Whether a dict from old to new names fits a program."""
    names = all_names(program)
    for old in table:
        if old not in names:
            return False
    return len(set([table.get(name, name) for name in names])) == len(names)


def program_with_names(program, table):
    """A program in which each name that a dict has is replaced everywhere."""
    return with_names(program[0], table), tuple([function_with_names(function, table) for function in program[1]])


def function_with_names(function, table):
    """A function in which each name that a dict has is replaced everywhere."""
    name, params, body = function
    renewed = tuple([table.get(param, param) for param in params])
    return table.get(name, name), renewed, with_names(body, table)


def renamed_head(program, function, names):
    """The program with other names for the parameters of one function."""
    check_program(program)
    if not is_name(function):
        raise InvalidFunction("the value is no name")
    if not are_names(names):
        raise InvalidNames("the value is no tuple of names")
    functions = surveyed(program).functions
    if function not in functions:
        raise UnknownFunction("no function has this name")
    if not are_fitting_head(functions[function], names, functions):
        raise NotFitting("the names do not fit the function")
    table = dict(zip(functions[function][1], names))
    rows = []
    for one in program[1]:
        if one[0] == function:
            rows.append(function_with_names(one, table))
        else:
            rows.append(one)
    return program[0], tuple(rows)


def are_fitting_head(function, names, functions):
    """Whether names may be those of the parameters of a function."""
    _, params, body = function
    if len(names) != len(params):
        return False
    standing = []
    names_in(body, standing)
    for name in names:
        if names.count(name) > 1 or is_special(name) or name in functions:
            return False
        if name in standing and name not in params:
            return False
    return True


def plain(program):
    """The program with the plain names f1, p1, v1 and so on."""
    check_program(program)
    surveyed(program)
    return plain_of(program, plain_table(program))


def plain_table(program):
    """A dict of the plain names of the functions, and of the names outside of parameters."""
    table = {}
    for function in program[1]:
        table[function[0]] = "f" + str(len(table) + 1)
    many = 0
    for name in printed_outside(program):
        if name not in table and not is_special(name):
            many += 1
            table[name] = "v" + str(many)
    return table


def printed_outside(program):
    """The names that stand as something else than a parameter, in printed sequence."""
    names = []
    names_in(program[0], names)
    for _, params, body in program[1]:
        inside = []
        names_in(body, inside)
        names.extend([name for name in inside if name not in params])
    return names


def head_table(params):
    """A dict of the plain names of the parameters of a function."""
    return {param: "p" + str(at + 1) for at, param in enumerate(params)}


def plain_of(program, table):
    """The plain program of a program, by the plain names of its functions and other names."""
    functions = []
    for function in program[1]:
        names = dict(table)
        names.update(head_table(function[1]))
        functions.append(function_with_names(function, names))
    return with_names(program[0], table), tuple(functions)


def likeness(program, other_program):
    """The pairs of slots and functions that have one plain name; None for unlike programs."""
    check_program(program)
    check_program(other_program)
    survey = surveyed(program)
    other_survey = surveyed(other_program)
    table = plain_table(program)
    other_table = plain_table(other_program)
    if plain_of(program, table) != plain_of(other_program, other_table):
        return None
    others = {}
    for slot, plain_slot in plain_slots(other_survey, other_table):
        others[plain_slot] = slot
    return sorted([(slot, others[plain_slot]) for slot, plain_slot in plain_slots(survey, table)])


def plain_slots(survey, table):
    """The list of tuples (slot, slot in the plain program), also for the functions."""
    heads = {name: head_table(survey.functions[name][1]) for name in survey.functions}
    rows = [(("", name), ("", table[name])) for name in heads]
    for slot in Slots(survey).all_slots():
        name = slot[1]
        if slot[0] != "":
            rows.append((slot, (table[slot[0]], heads[slot[0]][name])))
        elif not is_special(name):
            rows.append((slot, ("", table[name])))
    return rows
