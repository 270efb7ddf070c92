"""What passes leave to do in a code, by the words of the document."""

import slowpatterns
import slowvalues
import soundness
from slowvalues import Failed

NUMBER_OF_NAMED = {"jump": 1, "jump_if": 2, "next_key": 1, "record": 1, "next": 1}


def reached(code):
    """For each body the rows that are reached."""
    return [sorted(known) for known in soundness.shapes(code)]


def straight_at(body, rows_reached, at, many):
    """The straight rows, so many, from a row on; None if they are not straight."""
    rows = body[2]
    places = list(range(at, at + many))
    if any(place not in rows_reached for place in places):
        return None
    named = {0} | {rows[one][NUMBER_OF_NAMED[rows[one][0]]] for one in rows_reached if rows[one][0] in NUMBER_OF_NAMED}
    if body[0] == "":
        named.add(rows.index(("phase", "end")))
    if any(place in named for place in places[1:]):
        return None
    return tuple(rows[place] for place in places)


def truth(worth):
    return ("number", int(worth), 1)


def folded_value(rows):
    """The value that straight rows of constants and an instruction make; None if they are not folded."""
    if any(row[0] != "constant" for row in rows[:-1]):
        return None
    values, row = [one[1] for one in rows[:-1]], rows[-1]
    try:
        if len(values) == 2:
            if row[0] == "op":
                return slowvalues.operated(row[1], *values)
            if row[0] == "compare":
                return truth(eval("order %s 0" % row[1], {"order": slowvalues.compared(*values)}))
            if row[0] == "join":
                line = "".join(slowvalues.text(one) for one in values)
                return ("text", line) if len(line) <= 4000 else None
            if row[0] == "match":
                line, form = [slowvalues.text(one) for one in values]
                return truth(slowpatterns.holds(slowvalues.pattern(form), line))
            return None
        if row[0] == "minus":
            return slowvalues.value(-slowvalues.number(values[0]))
        if row[0] == "plus":
            return slowvalues.value(slowvalues.number(values[0]))
        if row[0] == "not":
            return truth(not slowvalues.true(values[0]))
        if row == ("key", 1):
            return ("text", slowvalues.text(values[0]))
        if row[0] == "built" and row[2] == 1:
            return slowvalues.built(row[1], values)
    except Failed:
        return None
    return None


def left_to_do(code, name):
    """What a pass of this name would still do with a code: a list of tuples (body, row)."""
    found = []
    for number, (body, rows_reached) in enumerate(zip(code[3], reached(code))):
        rows = body[2]
        found += [(number, at) for at in range(len(rows)) if at not in rows_reached]
        for at in rows_reached:
            two, three = [straight_at(body, rows_reached, at, many) for many in (2, 3)]
            if name == "folded":
                if two and (folded_value(two) or two[0][0] == "constant" and two[1][0] == "jump_if"):
                    found.append((number, at))
                if three and folded_value(three):
                    found.append((number, at))
            if name == "trimmed":
                if two and (two[1] == ("drop",) and two[0][0] in ("constant", "name", "local", "range", "copy")
                            or two == (("turn", 2), ("turn", 2)) or two[0] == ("not",) and two[1][0] == "jump_if"):
                    found.append((number, at))
                row = rows[at]
                if row == ("jump",
                        at + 1) or row[0] in NUMBER_OF_NAMED and rows[row[NUMBER_OF_NAMED[row[0]]]][0] == "jump":
                    found.append((number, at))
    return found


def swept(code):
    """The code without rows that are not reached, those that are named moved along."""
    bodies = []
    for (name, params, rows), rows_reached in zip(code[3], reached(code)):
        moved = {at: number for number, at in enumerate(rows_reached)}
        made = []
        for at in rows_reached:
            row = rows[at]
            if row[0] in NUMBER_OF_NAMED:
                named = NUMBER_OF_NAMED[row[0]]
                row = row[:named] + (moved[row[named]],) + row[named + 1:]
            made.append(row)
        bodies.append((name, params, tuple(made)))
    return code[:3] + (tuple(bodies),)
