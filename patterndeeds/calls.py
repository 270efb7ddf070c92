"""Calls: which functions call which, and which a run can reach."""

from patterndeeds.errors import InvalidFunction, UnknownFunction
from patterndeeds.names import check_program, surveyed
from patterndeeds.signs import is_name
from patterndeeds.standing import places_in


def calls(program):
    """The ascending list of the tuples (caller, called)."""
    check_program(program)
    return sorted(set(surveyed(program).calls))


def checked_table(program):
    """A dict of the ascending lists of what each caller calls, if a program has no fault."""
    check_program(program)
    table = {"": []}
    for function in program[1]:
        table[function[0]] = []
    for caller, called in sorted(set(surveyed(program).calls)):
        table[caller].append(called)
    return table


def led_to(table, caller):
    """A dict by the functions to which calls lead from a caller: the one that leads there first."""
    before = {}
    queue = [caller]
    done = 0
    while done < len(queue):
        one = queue[done]
        done += 1
        for called in table[one]:
            if called not in before:
                before[called] = one
                queue.append(called)
    return before


def reached(program):
    """The ascending list of the functions to which calls lead from the rules."""
    return sorted(led_to(checked_table(program), ""))


def way_to(program, function):
    """A shortest list of functions by which calls lead from a rule to a function, or None."""
    check_program(program)
    if not is_name(function):
        raise InvalidFunction("the value is no name")
    table = checked_table(program)
    if function not in table:
        raise UnknownFunction("no function has this name")
    before = led_to(table, "")
    if function not in before:
        return None
    row = []
    while function != "":
        row.append(function)
        function = before[function]
    return row[::-1]


def rings(program):
    """The ascending list of the functions to which calls lead from themselves."""
    return rings_of(checked_table(program))


def rings_of(table):
    """The ascending list of the functions of a table to which calls lead from themselves."""
    return sorted([name for name in table if name in led_to(table, name)])


def deepest(program):
    """The greatest number of functions that can be called in a row; None with a ring."""
    table = checked_table(program)
    rows = led_to(table, "")
    for name in rings_of(table):
        if name in rows:
            return None
    many = 0
    callers = [""]
    while callers:
        callers = sorted(set([called for caller in callers for called in table[caller]]))
        if callers:
            many += 1
    return many


def without_unreached(program):
    """The program without the functions that are not reached, and where its places were."""
    rows = led_to(checked_table(program), "")
    place = places_in(program[0])
    moved = list(range(place + 1))
    functions = []
    for function in program[1]:
        many = places_in(function[2])
        if function[0] in rows:
            functions.append(function)
            moved.extend(list(range(place + 1, place + many + 1)))
        place += many
    return (program[0], tuple(functions)), moved
