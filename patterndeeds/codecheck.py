"""Which values are codes: their heads, their bodies and each instruction."""

from patterndeeds.signs import SPECIALS, is_name
from patterndeeds.survey import ARGUMENTS
from patterndeeds.values import is_value

PARAM_KINDS = ("value", "array")
MOST_TURNED = 6
# What each instruction has behind its word.
SHAPES = {
    "constant": ("constant",), "name": ("scalar",), "local": ("value_param",), "range": ("range",), "field": (),
    "element": ("array",), "is_in": ("array",), "minus": (), "plus": (), "not": (), "close": (),
    "key": ("some",), "size": ("array",), "array": ("array",), "set_name": ("scalar",),
    "set_local": ("value_param",), "set_field": (), "set_element": ("array",), "drop": (), "copy": (),
    "turn": ("turned",), "op": ("operator",), "compare": ("comparer",), "compare_as": ("how", "comparer"),
    "join": (), "match": (), "built": ("built_word", "some"), "split": ("array", "one_or_two"),
    "substitute": ("truth",), "print": ("some", "write_kind"), "printf": ("some", "write_kind"),
    "read": ("read_kind", "into"), "tick": ("place",), "set_range": ("range", "truth"), "clear": ("array",),
    "delete": ("array",), "jump": ("row",), "jump_if": ("truth", "row"), "walk": ("array",),
    "next_key": ("other_row",), "call": ("function", "place"), "return": (), "exit": ("truth",),
    "record": ("row",), "next": ("row",), "phase": ("phase",), "halt": (),
}
# The words that may stand in each role for words.
WORDS = {
    "operator": ("+", "-", "*", "/", "@", "^"), "comparer": ("<", "<=", "==", "!=", ">", ">="),
    "how": ("number", "text"), "phase": ("main", "end"), "into": ("record", "value"),
    "write_kind": ("", ">", ">>", "|"), "read_kind": ("main", "<", "|"),
    "built_word": ("length", "index", "substr", "tolower", "toupper", "int", "sprintf", "match"),
}
MAIN_ALONE = ("record", "next", "phase", "halt")


class Scope:
    """What the instructions of a body may name.

    heads has the kinds of the parameters of each function; many is the number of the rows; next_at the
    number of the row behind the instruction that is looked at.
    """

    def __init__(self, scalars, arrays, ranges, heads):
        self.scalars = scalars
        self.arrays = arrays
        self.ranges = ranges
        self.heads = heads
        self.params = ()
        self.many = 0
        self.next_at = 0


def is_sound_part(role, value, scope):
    """Whether any value may stand in an instruction in a role."""
    if role in WORDS:
        return type(value) is str and value in WORDS[role]
    if role == "truth":
        return type(value) is bool
    if role == "constant":
        return is_value(value) and value[0] != "seen"
    if role == "scalar":
        return type(value) is str and value in scope.scalars
    if role == "function":
        return type(value) is str and value in scope.heads
    if role == "array":
        return is_array_place(value, scope)
    return type(value) is int and is_fitting_number(role, value, scope)


def is_array_place(value, scope):
    """Whether any value is an array place of a body."""
    if type(value) is not tuple or len(value) != 2 or type(value[0]) is not str:
        return False
    if value[0] == "global":
        return type(value[1]) is str and value[1] in scope.arrays
    return value[0] == "local" and type(value[1]) is int and has_param(scope, value[1], "array")


def has_param(scope, number, kind):
    """Whether the parameter with this number is of this kind."""
    return 0 <= number < len(scope.params) and scope.params[number] == kind


def is_fitting_number(role, number, scope):
    """Whether an integer may stand in an instruction in a role."""
    if role == "value_param":
        return has_param(scope, number, "value")
    if role == "range":
        return 0 <= number < scope.ranges
    if role == "some":
        return number >= 1
    if role == "place":
        return number >= 0
    if role == "turned":
        return 2 <= number <= MOST_TURNED
    if role == "one_or_two":
        return 1 <= number <= 2
    if role == "other_row" and number == scope.next_at:
        return False
    return 0 <= number < scope.many


def is_instruction(value, scope):
    """Whether any value is an instruction that may stand in a body."""
    if type(value) is not tuple or len(value) == 0 or type(value[0]) is not str or value[0] not in SHAPES:
        return False
    word = value[0]
    roles = SHAPES[word]
    if len(value) != len(roles) + 1:
        return False
    for role, part in zip(roles, value[1:]):
        if not is_sound_part(role, part, scope):
            return False
    if word == "built":
        return is_argument_number(value[1], value[2])
    if word == "call":
        return value[2] <= len(scope.heads[value[1]])
    return True


def is_argument_number(word, number):
    """Whether a built-in word may have so many arguments in a code."""
    fewest, most = ARGUMENTS[word]
    return fewest <= number and (most is None or number <= most)


def are_ascending_names(value):
    """Whether any value is an ascending tuple of names."""
    if type(value) is not tuple:
        return False
    for name in value:
        if not is_name(name):
            return False
    for name, other in zip(value, value[1:]):
        if name >= other:
            return False
    return True


def are_heads(scalars, arrays, ranges):
    """Whether any values are the names and the number of range bits of a code."""
    if not are_ascending_names(scalars) or not are_ascending_names(arrays):
        return False
    if type(ranges) is not int or ranges < 0:
        return False
    for name in SPECIALS:
        if name not in scalars or name in arrays:
            return False
    return True


def is_body(value):
    """Whether any value looks like a body, whatever its instructions are."""
    if type(value) is not tuple or len(value) != 3 or type(value[0]) is not str or type(value[1]) is not tuple:
        return False
    for kind in value[1]:
        if type(kind) is not str or kind not in PARAM_KINDS:
            return False
    return type(value[2]) is tuple and len(value[2]) > 0


def are_bodies(value):
    """Whether any value looks like a row of bodies, the main first, with unlike names."""
    if type(value) is not tuple or len(value) == 0:
        return False
    names = {}
    for body in value:
        if not is_body(body) or body[0] in names:
            return False
        names[body[0]] = True
        if body[0] == "":
            if body[1] != ():
                return False
        elif len(names) == 1 or not is_name(body[0]):
            return False
    return True


def are_instructions(body, scope):
    """Whether the rows of what looks like a body are instructions that may stand in it."""
    name, params, rows = body
    scope.params = params
    scope.many = len(rows)
    for at, row in enumerate(rows):
        scope.next_at = at + 1
        if not is_instruction(row, scope):
            return False
        if name == "" and row[0] == "return" or name != "" and row[0] in MAIN_ALONE:
            return False
    return name != "" or rows.count(("phase", "end")) == 1
