"""Codes: which values are codes, and the code of a program."""

from patterndeeds.codecheck import are_instructions, scope_of
from patterndeeds.kinds import sound_kinds
from patterndeeds.names import check_program
from patterndeeds.writingbodies import program_code


def is_code(value):
    """Whether any value is a code."""
    if type(value) is not tuple or len(value) != 4:
        return False
    scope = scope_of(value)
    if scope is None:
        return False
    for body in value[3]:
        if not are_instructions(body, scope):
            return False
    return True


def code_of(program):
    """A sound code of a sound program."""
    check_program(program)
    return program_code(program, sound_kinds(program))
