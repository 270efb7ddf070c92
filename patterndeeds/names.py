"""Names: the faults of a program."""

from patterndeeds.errors import InvalidProgram, UnsoundProgram
from patterndeeds.survey import Survey, head_faults
from patterndeeds.trees import is_program


def faults(program):
    """The ascending list of the faults of a program."""
    check_program(program)
    return sorted(set(found_faults(program, Survey(program))))


def check_program(program):
    """Raises InvalidProgram unless a value is a program."""
    if not is_program(program):
        raise InvalidProgram("the value is no program")


def found_faults(program, survey):
    """The faults of what surely is a program, by a survey of it."""
    return head_faults(program, survey.functions) + survey.faults


def surveyed(program):
    """The survey of a program; raises UnsoundProgram if it has a fault."""
    survey = Survey(program)
    if found_faults(program, survey):
        raise UnsoundProgram("the program has a fault")
    return survey
