"""The machine: runs of codes, instruction by instruction."""

from patterndeeds.checker import check_code, checked_shapes, sound_shapes
from patterndeeds.holding import check_held, is_fitting
from patterndeeds.runs import Run, first_held
from patterndeeds.stepping import do_row, go_on
from patterndeeds.walker import check_count
from patterndeeds.worlds import check_world

# The instructions that take a record, which may have to be waited for.
TAKING = ("record", "read")


def begun(code):
    """The first held state of a code."""
    checked_shapes(code)
    return first_held(code)


def step(code, world, held):
    """The held state behind one instruction, and the event, if there is one."""
    check_standing(code, world, held)
    run = Run(code, world, held)
    if run.ending is not None or not do_row(run, run.rows[run.row]):
        return held, None
    event = None
    if run.happened:
        event = run.happened[0]
    return run.held(), event


def end_of(code, world, held):
    """The end of a held state; ("step",) if it may go on with an instruction that is no tick."""
    check_standing(code, world, held)
    ending, place, (body, number), _, _, _ = held
    if ending is not None:
        return ending
    row = code[3][body][2][number]
    if row[0] == "tick":
        return row
    if row[0] in TAKING and not do_row(Run(code, world, held), row):
        return ("more", place)
    return ("step",)


def go(code, world, held, count):
    """The number of ticks, the end, the held state and the events behind at most so many ticks more."""
    check_standing(code, world, held)
    check_count(count)
    run = Run(code, world, held)
    places, end = go_on(run, count)
    return (len(places), end, run.held(), run.happened)


def told(code, held):
    """The told state of a held state."""
    check_held(code, checked_shapes(code), None, held)
    _, place, _, _, calls, room = held
    return (place, room, tuple([call[:2] for call in calls]))


def outcome(code, world, count):
    """The outcome of a code in a world behind at most so many ticks."""
    checked_shapes(code)
    check_world(world)
    check_count(count)
    run = Run(code, world)
    places, end = go_on(run, count)
    return (len(places), end, run.told(), run.happened)


def fits(code, world, value):
    """Whether any value is a held state that fits a code and a world."""
    check_code(code)
    shapes = sound_shapes(code)
    check_world(world)
    return is_fitting(code, shapes, world, value)


def check_standing(code, world, held):
    """Raises the errors of a code, a world and a held state."""
    shapes = checked_shapes(code)
    check_world(world)
    check_held(code, shapes, world, held)
