"""What several test files use."""

import os
import random
import unittest

from patterndeeds.errors import DeedError
from patterndeeds.parser import program_of

# More rounds of the random tests by MANY=10 and the like.
MANY = int(os.environ.get("MANY", "1"))


class Text(str):
    """A string that is not exactly one."""


class Row(tuple):
    """A tuple that is not exactly one."""


class Rows(list):
    """A list that is not exactly one."""


class Number(int):
    """An integer that is not exactly one."""


# Values of all kinds that are neither words nor trees nor texts of use.
VALUES = [None, True, False, 0, 1, -1, 10 ** 89, "", "x", "%", "a\rb", (), [], [[]], ((),), ((), ()), (((), ()), ()),
          ["x"], ("x",), ("name",), ("name", "x", "y"), ("name", 1), [("name", "x")], [("line", "\n")],
          ValueError("x"), DeedError("x"), Text("x"), Row(), Rows(), {}, set(), b"", 1.5, object, ("text", ["a"]),
          ("expr", ("name", "x")), ("begin", ()), (None, None), (0, 0), ("", "x"), [("", "x")], [("x", "y", "z")]]


class Case(unittest.TestCase):
    """A test case that can tell which error a call raises."""

    maxDiff = None

    def raises(self, error, action, *values, **named):
        """Checks that a call raises exactly this error, and returns what was raised."""
        try:
            result = action(*values, **named)
        except DeedError as found:
            if type(found) is not error:
                self.fail("no %s, but %r of %r" % (error.__name__, found, values))
            return found
        self.fail("no %s, but %r of %r" % (error.__name__, result, values))

    def raises_with(self, error, field, worth, action, *values):
        """Checks that a call raises this error with this worth in its field."""
        found = self.raises(error, action, *values)
        self.assertEqual(getattr(found, field), worth, "%r" % (values,))


def random_of(*seed):
    """A source of chance that is the same in each run."""
    return random.Random(repr(seed))


def body_of(source):
    """The statements of the one rule of a block."""
    return program_of("{" + source + "}")[0][0][1]


def leaf_paths(tree):
    """The list of the paths, tuples of indexes, to all parts of a tree, itself the first."""
    paths = [()]
    if type(tree) is tuple:
        for at, part in enumerate(tree):
            paths.extend((at,) + path for path in leaf_paths(part))
    return paths


def part_at(tree, path):
    """The part of a tree at a path."""
    for at in path:
        tree = tree[at]
    return tree


def exchanged(tree, path, worth):
    """The tree with another worth at a path."""
    if path == ():
        return worth
    at = path[0]
    return tree[:at] + (exchanged(tree[at], path[1:], worth),) + tree[at + 1:]
