"""Rows that change what they walk, also by another name for it (L23, and L5 Iteration).

A name that is given an item, a field or another name by a plain assignment stands for the same, as far
as a script can see: it does not tell a list from a number.
"""

import ast

CHANGING = set("append extend pop insert remove clear update setdefault sort reverse add discard".split())
PLAIN = (ast.Name, ast.Attribute, ast.Subscript)


class Aliases:
    """Which expressions of a function stand for the same."""

    def __init__(self, function):
        self.group = {}
        for node in ast.walk(function):
            if isinstance(node, ast.Assign):
                for target in node.targets:
                    self.assign(target, node.value)

    def assign(self, target, value):
        if isinstance(target, ast.Tuple) and isinstance(value, ast.Tuple) and len(target.elts) == len(value.elts):
            for one, other in zip(target.elts, value.elts):
                self.assign(one, other)
        elif isinstance(target, PLAIN):
            for one in choices(value):
                self.group[self.of(target)] = self.of(one)

    def of(self, node):
        """What stands for all that an expression is the same as."""
        found = ast.unparse(node)
        while self.group.get(found, found) != found:
            found = self.group[found]
        return found


def choices(node):
    """What a value may be, without what is worked out anew."""
    if isinstance(node, ast.IfExp):
        return choices(node.body) + choices(node.orelse)
    if isinstance(node, ast.BoolOp):
        return [one for value in node.values for one in choices(value)]
    return [node] if isinstance(node, PLAIN) else []


def walked(node):
    """What a loop or a comprehension goes over."""
    if isinstance(node, ast.Call) and getattr(node.func, "id", "") in ("enumerate", "zip", "reversed"):
        return [one for value in node.args for one in walked(value)]
    if isinstance(node, ast.Call) and getattr(node.func, "attr", "") in ("items", "keys", "values"):
        return walked(node.func.value)
    return choices(node)


def changed_by(node):
    """What a part of a row changes; None if nothing."""
    if isinstance(node, ast.Call) and isinstance(node.func, ast.Attribute) and node.func.attr in CHANGING:
        return node.func.value
    if isinstance(node, ast.Subscript) and isinstance(node.ctx, (ast.Store, ast.Del)):
        return node.value
    return node.target if isinstance(node, ast.AugAssign) else None


def loops_in(function):
    """What each loop and comprehension of a function goes over, and the parts that are done in it."""
    for node in ast.walk(function):
        if isinstance(node, ast.For):
            yield walked(node.iter), [part for row in node.body for part in ast.walk(row)]
        for one in getattr(node, "generators", []):
            yield walked(one.iter), list(ast.walk(node))


def changes_of_walked(function):
    """The parts of a function that change what they walk, or what a loop around them walks."""
    same = Aliases(function)
    found = []
    for node in ast.walk(function):
        given = []
        if isinstance(node, ast.AugAssign):
            given = choices(node.value)
        elif isinstance(node, ast.Call) and getattr(node.func, "attr", "") in ("extend", "update"):
            given = [one for value in node.args for one in choices(value)]
        if same.of(changed_by(node) or node) in [same.of(one) for one in given]:
            found.append(node)
    for over, parts in loops_in(function):
        # Of fields only the name itself counts: one that is set behind the loop is no other name in it.
        names = [same.of(one) for one in over if isinstance(one, ast.Name)]
        texts = [ast.unparse(one) for one in over]
        for part in parts:
            changed = changed_by(part)
            if changed is not None and (same.of(changed) in names or ast.unparse(changed) in texts):
                found.append(part)
    return found
