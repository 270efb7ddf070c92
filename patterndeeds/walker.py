"""The walker: runs of programs, tick by tick."""

from patterndeeds.errors import InvalidCount
from patterndeeds.kinds import sound_kinds
from patterndeeds.names import check_program
from patterndeeds.runs import Run
from patterndeeds.stepping import go_on
from patterndeeds.worlds import check_world
from patterndeeds.writingbodies import program_code


def walk(program, world, count):
    """The outcome of a program in a world behind at most so many ticks."""
    run = begun_run(program, world, count)
    places, end = go_on(run, count)
    return (len(places), end, run.told(), run.happened)


def tick_places(program, world, count):
    """The list of the places of these ticks."""
    return go_on(begun_run(program, world, count), count)[0]


def begun_run(program, world, count):
    """A run of a program that has not begun; raises the errors of the arguments."""
    check_program(program)
    check_world(world)
    check_count(count)
    return Run(program_code(program, sound_kinds(program)), world)


def check_count(count):
    """Raises InvalidCount unless a value is an integer from 0 on."""
    if type(count) is not int or count < 0:
        raise InvalidCount("the value is no count")
