"""Codes: which values are codes, and the code of a program."""

from patterndeeds.codecheck import Scope, are_bodies, are_heads, are_instructions
from patterndeeds.kinds import sound_kinds
from patterndeeds.names import check_program
from patterndeeds.writingbodies import program_code


def is_code(value):
    """Whether any value is a code."""
    if type(value) is not tuple or len(value) != 4:
        return False
    scalars, arrays, ranges, bodies = value
    if not are_heads(scalars, arrays, ranges) or not are_bodies(bodies):
        return False
    heads = {body[0]: body[1] for body in bodies[1:]}
    scope = Scope({name: True for name in scalars}, {name: True for name in arrays}, ranges, heads)
    for body in bodies:
        if not are_instructions(body, scope):
            return False
    return True


def code_of(program):
    """A sound code of a sound program."""
    check_program(program)
    return program_code(program, sound_kinds(program))
