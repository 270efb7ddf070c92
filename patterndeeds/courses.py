"""Courses: what runs tell tick by tick, and which values are deeds of a bench."""

from patterndeeds.errors import InvalidCount
from patterndeeds.runs import Run
from patterndeeds.signs import is_text
from patterndeeds.stepping import go_on

# The kinds of what stands in deeds behind their first words.
DEED_FORMS = {
    "go": ("integer",), "back": ("integer",), "run": ("integer",), "mark": ("integer",), "unmark": ("integer",),
    "main": ("integer", "text", "truth"), "aside": ("text", "text", "text", "truth"),
}


def check_ticks(count):
    """Raises InvalidCount unless a value is an integer from 1 on."""
    if type(count) is not int or count < 1:
        raise InvalidCount("the value is no number of ticks")


def watched(code, world, name, ticks):
    """The list of the tuples (tick, value) of the ticks, up to a number, behind which a scalar holds another value."""
    run = Run(code, world)
    go_on(run, 0)
    rows = [(0, run.scalars[name])]
    for tick in range(1, ticks + 1):
        go_on(run, 1)
        if run.scalars[name] != rows[-1][1]:
            rows.append((tick, run.scalars[name]))
    return rows


def parting_tick(run, other_run, ticks):
    """The least number of ticks, up to a number, behind which two runs that have not begun differ; None without one."""
    for tick in range(ticks + 1):
        count = min(tick, 1)
        end = go_on(run, count)[1]
        other_end = go_on(other_run, count)[1]
        if end != other_end or run.happened != other_run.happened or run.told() != other_run.told():
            return tick
    return None


def written_ticks(code, world, ticks):
    """The ascending list of the ticks, up to a number, that write something."""
    run = Run(code, world)
    go_on(run, 0)
    found = []
    for tick in range(1, ticks + 1):
        many = len(run.happened)
        go_on(run, 1)
        if [event for event in run.happened[many:] if event[0] == "write"]:
            found.append(tick)
    return found


def is_deed(value):
    """Whether any value has the form of a deed."""
    if type(value) is not tuple or len(value) == 0 or type(value[0]) is not str or value[0] not in DEED_FORMS:
        return False
    forms = DEED_FORMS[value[0]]
    if len(value) != len(forms) + 1:
        return False
    for form, part in zip(forms, value[1:]):
        if form == "text" and not is_text(part):
            return False
        if form == "integer" and type(part) is not int or form == "truth" and type(part) is not bool:
            return False
    return True
