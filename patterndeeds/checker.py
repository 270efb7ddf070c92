"""The checker: what is wrong with a code, and the shapes of a sound one."""

from patterndeeds.codes import is_code
from patterndeeds.effects import entries_of, heads_of, stacks_behind
from patterndeeds.errors import InvalidCode, UnsoundCode
from patterndeeds.following import Following, Lengths, quick_shapes

WAY_NUMBERS = {"lacks": 1, "unlike": 2, "falls": 1, "tickless": 1}


def code_fault(code):
    """A code fault; None if the code is sound."""
    check_code(code)
    heads = heads_of(code)
    for number, body in enumerate(code[3]):
        fault = Following(body, heads).fault
        if fault is not None:
            kind, ways = fault
            return (kind, number, ways)
    return None


def check_code(code):
    """Raises InvalidCode unless a value is a code."""
    if not is_code(code):
        raise InvalidCode("the value is no code")


def checked_shapes(code):
    """The shapes of any value that is a sound code; raises InvalidCode, UnsoundCode."""
    check_code(code)
    return sound_shapes(code)


def sound_shapes(code):
    """The shapes of a code; raises UnsoundCode if it is not sound."""
    heads = heads_of(code)
    found = []
    for body in code[3]:
        ways = quick_shapes(body, heads)
        if ways is None or ways[1] and Lengths(body[2], ways[0]).ring is not None:
            raise UnsoundCode("the code is not sound")
        found.append(ways[0])
    return found


def shapes(code):
    """A list with the list of the shapes of the rows for each body."""
    return checked_shapes(code)


def step_bound(code):
    """The greatest number of rows in a row of followers of which none but perhaps the first is a tick."""
    greatest = 0
    for number, shapes_here in enumerate(checked_shapes(code)):
        lengths = Lengths(code[3][number][2], shapes_here).lengths
        greatest = max([greatest] + [length for length in lengths if length is not None])
    return greatest


def is_code_fault(code, value):
    """Whether any value is a code fault of a code."""
    check_code(code)
    if type(value) is not tuple or len(value) != 3:
        return False
    kind, number, ways = value
    if type(kind) is not str or kind not in WAY_NUMBERS:
        return False
    if type(number) is not int or not 0 <= number < len(code[3]):
        return False
    if type(ways) is not list or len(ways) != WAY_NUMBERS[kind]:
        return False
    body = code[3][number]
    heads = heads_of(code)
    stacks = [stack_of_way(body, way, heads) for way in ways]
    if None in stacks:
        return False
    return shows_fault(kind, body[2], ways, stacks, heads)


def stack_of_way(body, way, heads):
    """The stack that any value makes ahead of its last row, if it is a way; else None.

    None, too, if a row but the last lacks something. The last row may be that behind all rows.
    """
    if type(way) is not list or [at for at in way if type(at) is not int] or way[:1] == []:
        return None
    if way[0] not in entries_of(body):
        return None
    rows = body[2]
    stack = ()
    for at, following in zip(way, way[1:]):
        if at == len(rows):
            return None
        behind = stacks_behind(rows, at, stack, heads)
        going = [] if behind is None else [one for one in behind if one[0] == following]
        if going == []:
            return None
        stack = going[0][1]
    return stack


def shows_fault(kind, rows, ways, stacks, heads):
    """Whether ways, with the stacks that they make, show a fault of a kind."""
    last = ways[0][-1]
    if kind == "falls":
        return last == len(rows)
    if last == len(rows):
        return False
    if kind == "lacks":
        return stacks_behind(rows, last, stacks[0], heads) is None
    if kind == "unlike":
        return ways[1][-1] == last and stacks[0] != stacks[1]
    way = ways[0][:-1]
    while way and rows[way[-1]][0] != "tick":
        if way[-1] == last:
            return rows[last][0] != "tick"
        way.pop()
    return False
