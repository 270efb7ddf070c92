"""Worlds: the inputs of runs, and how more of them is told."""

from patterndeeds.errors import InvalidIndex, InvalidWorld, Whole
from patterndeeds.signs import is_text

KINDS = ("<", "|")


def is_world(value):
    """Whether any value is a world."""
    if type(value) is not tuple or len(value) != 2 or type(value[0]) is not tuple or type(value[1]) is not tuple:
        return False
    for row in value[0]:
        if not is_main(row):
            return False
    for row in value[1]:
        if not is_aside(row):
            return False
    keys = [row[:2] for row in value[1]]
    for key, other in zip(keys, keys[1:]):
        if key >= other:
            return False
    return True


def is_main(value):
    """Whether any value is a main file."""
    if type(value) is not tuple or len(value) != 3 or type(value[2]) is not bool:
        return False
    return is_text(value[0]) and is_text(value[1])


def is_aside(value):
    """Whether any value is an aside."""
    if type(value) is not tuple or len(value) != 4:
        return False
    return type(value[0]) is str and value[0] in KINDS and is_main(value[1:])


def check_world(world):
    """Raises InvalidWorld unless a value is a world."""
    if not is_world(world):
        raise InvalidWorld("the value is no world")


def has_more(world, other_world):
    """Whether a world is another one with more of its inputs told."""
    check_world(world)
    check_world(other_world)
    for rows, others in zip(world, other_world):
        if len(rows) != len(others):
            return False
        for row, other in zip(rows, others):
            if not is_more(row, other):
                return False
    return True


def is_more(row, other):
    """Whether an input is another one with more of it told."""
    if row[:-2] != other[:-2]:
        return False
    if other[-1]:
        return row == other
    return row[-2].startswith(other[-2])


def with_main(world, index, text, whole):
    """The world with more of a main file told."""
    check_world(world)
    mains, asides = world
    if type(index) is not int or not 0 <= index < len(mains):
        raise InvalidIndex("no main file has this index")
    return (mains[:index] + (with_more(mains[index], text, whole),) + mains[index + 1:], asides)


def with_aside(world, kind, name, text, whole):
    """The world with more of an aside told, a new one if there is none."""
    check_world(world)
    mains, asides = world
    at = len([row for row in asides if row[:2] < (kind, name)])
    if at < len(asides) and asides[at][:2] == (kind, name):
        return (mains, asides[:at] + (with_more(asides[at], text, whole),) + asides[at + 1:])
    return (mains, asides[:at] + ((kind, name, text, whole),) + asides[at:])


def with_more(row, text, whole):
    """An input with a text put behind it, whole as told."""
    if row[-1]:
        raise Whole("the input is whole already")
    return row[:-2] + (row[-2] + text, whole)


def cut_world(world, numbers):
    """The world with so many first signs of each main file alone."""
    check_world(world)
    mains, asides = world
    rows = []
    for (name, text, whole), number in zip(mains, numbers):
        rows.append((name, text[:number], whole and number >= len(text)))
    return (tuple(rows), asides)
