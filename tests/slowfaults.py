"""Code faults by the words of the document: ways are followed one by one."""

import soundness

END = ("phase", "end")


def entries(body):
    return [0] + ([body[2].index(END)] if body[0] == "" else [])


def stack_of(body, way, heads):
    """The stack that a list makes ahead of its last entry, if it is a way whose rows but the last lack nothing."""
    if not way or way[0] not in entries(body):
        return None
    stack = ()
    for at, following in zip(way, way[1:]):
        if at >= len(body[2]) or following not in soundness.followers(body[2], at):
            return None
        try:
            stack = soundness.after(body[2][at], following, list(stack), heads)
        except AssertionError:
            return None
    return stack


def lacks(body, at, stack, heads):
    """Whether a row lacks something on a stack, wherever it goes."""
    row = body[2][at]
    going = row[1] if row[0] == "next_key" else at + 1
    try:
        soundness.after(row, going, list(stack), heads)
    except AssertionError:
        return True
    return False


def is_fault(code, kind, number, ways):
    """Whether ways, lists of integers, of a body are a code fault of a kind."""
    body = code[3][number]
    heads = {name: params for name, params, _ in code[3]}
    stacks = [stack_of(body, way, heads) for way in ways]
    if None in stacks:
        return False
    last = [way[-1] for way in ways]
    if kind == "falls":
        return last == [len(body[2])]
    if len(body[2]) in last or len(ways) != (2 if kind == "unlike" else 1):
        return False
    if kind == "lacks":
        return lacks(body, last[0], stacks[0], heads)
    if kind == "unlike":
        return last[0] == last[1] and stacks[0] != stacks[1]
    way = ways[0]
    earlier = [at for at in range(len(way) - 1) if way[at] == last[0]]
    return any(all(body[2][one][0] != "tick" for one in way[at:]) for at in earlier)


def ways_of(code, number, most):
    """All lists of rows of a body that begin with an entry and go on to followers, of so many rows at most."""
    body = code[3][number]
    found = [[entry] for entry in sorted(set(entries(body)))]
    for way in found:
        if len(way) < most and way[-1] < len(body[2]):
            found.extend(way + [going] for going in sorted(set(soundness.followers(body[2], way[-1]))))
    return found


def is_sound(code):
    """Whether a code has no fault, by following each way until its rows come again with the stacks they had."""
    try:
        soundness.shapes(code)
    except AssertionError:
        return False
    return True
