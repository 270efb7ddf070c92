"""Which values are codes: their heads, their bodies and each instruction."""

from patterndeeds.effects import PHASE_END
from patterndeeds.signs import SPECIALS, is_name
from patterndeeds.survey import ARGUMENTS
from patterndeeds.values import is_value

PARAM_KINDS = ("value", "array")
MOST_TURNED = 6
OPERATORS = ("+", "-", "*", "/", "@", "^")
COMPARERS = ("<", "<=", "==", "!=", ">", ">=")
WAYS_TO_COMPARE = ("number", "text")
PHASE_WORDS = ("main", "end")
PLACES_TO_READ = ("record", "value")
WRITE_KINDS = ("", ">", ">>", "|")
READ_KINDS = ("main", "<", "|")
BUILT_WORDS = ("length", "index", "substr", "tolower", "toupper", "int", "sprintf", "match")


class Scope:
    """What the instructions of a body may name.

    heads has the kinds of the parameters of each body; many is the number of the rows; next_at the number
    of the row behind the instruction that is looked at.
    """

    def __init__(self, scalars, arrays, ranges, heads):
        self.scalars = scalars
        self.arrays = arrays
        self.ranges = ranges
        self.heads = heads
        self.in_main = False
        self.params = ()
        self.many = 0
        self.next_at = 0


def is_word(value, words):
    """Whether any value is one of some words."""
    return type(value) is str and value in words


def is_constant(value, _):
    """Whether any value may stand in a constant."""
    return is_value(value) and value[0] != "seen"


def is_scalar(value, scope):
    """Whether any value is the name of a scalar."""
    return type(value) is str and value in scope.scalars


def is_array_place(value, scope):
    """Whether any value is an array place of a body."""
    if type(value) is not tuple or len(value) != 2:
        return False
    how, which = value
    if type(how) is not str:
        return False
    if how == "global":
        return type(which) is str and which in scope.arrays
    return how == "local" and is_param(which, scope, "array")


def is_param(value, scope, kind):
    """Whether any value is the number of a parameter of this kind."""
    return type(value) is int and 0 <= value < len(scope.params) and scope.params[value] == kind


def is_value_param(value, scope):
    """Whether any value is the number of a parameter that is a value."""
    return is_param(value, scope, "value")


def is_range(value, scope):
    """Whether any value is the number of a range bit."""
    return type(value) is int and 0 <= value < scope.ranges


def is_place(value, _):
    """Whether any value is an integer from 0 on."""
    return type(value) is int and value >= 0


def is_many(value, _):
    """Whether any value is an integer from 1 on."""
    return type(value) is int and value >= 1


def is_turned(value, _):
    """Whether any value tells how many things may be turned."""
    return type(value) is int and 2 <= value <= MOST_TURNED


def is_truth(value, _):
    """Whether any value is a truth."""
    return type(value) is bool


def is_operator(value, _):
    """Whether any value is an operator."""
    return is_word(value, OPERATORS)


def is_comparer(value, _):
    """Whether any value is the sign of a comparison."""
    return is_word(value, COMPARERS)


def is_row(value, scope):
    """Whether any value is the number of a row."""
    return type(value) is int and 0 <= value < scope.many


def is_other_row(value, scope):
    """Whether any value is the number of a row that is not the next one."""
    return is_row(value, scope) and value != scope.next_at


def is_row_of_main(value, scope):
    """Whether any value is the number of a row, in the main alone."""
    return is_row(value, scope) and scope.in_main


def is_phase(value, scope):
    """Whether any value is the word of a phase, in the main alone."""
    return is_word(value, PHASE_WORDS) and scope.in_main


def is_compare_as(row, _):
    """Whether the parts of a compare_as are right."""
    return is_word(row[1], WAYS_TO_COMPARE) and is_word(row[2], COMPARERS)


def is_built(row, _):
    """Whether the parts of a built are right."""
    if not is_word(row[1], BUILT_WORDS) or type(row[2]) is not int:
        return False
    fewest, most = ARGUMENTS[row[1]]
    return max(fewest, 1) <= row[2] and (most is None or row[2] <= most)


def is_split(row, scope):
    """Whether the parts of a split are right."""
    return is_array_place(row[1], scope) and type(row[2]) is int and 1 <= row[2] <= 2


def is_writing(row, scope):
    """Whether the parts of a print or printf are right."""
    return is_many(row[1], scope) and is_word(row[2], WRITE_KINDS)


def is_read(row, _):
    """Whether the parts of a read are right."""
    return is_word(row[1], READ_KINDS) and is_word(row[2], PLACES_TO_READ)


def is_set_range(row, scope):
    """Whether the parts of a set_range are right."""
    return is_range(row[1], scope) and type(row[2]) is bool


def is_jump_if(row, scope):
    """Whether the parts of a jump_if are right."""
    return type(row[1]) is bool and is_row(row[2], scope)


def is_call(row, scope):
    """Whether the parts of a call are right."""
    if type(row[1]) is not str or row[1] == "" or row[1] not in scope.heads:
        return False
    return type(row[2]) is int and 0 <= row[2] <= len(scope.heads[row[1]])


# The instructions without parts that may stand in each body; halt and return stand in some alone.
ALONE = {
    "field": True, "minus": True, "plus": True, "not": True, "close": True, "set_field": True, "drop": True,
    "copy": True, "join": True, "match": True,
}
# What is asked of the part of an instruction that has one.
PARTS = {
    "constant": is_constant, "name": is_scalar, "local": is_value_param, "range": is_range,
    "element": is_array_place, "is_in": is_array_place, "key": is_many, "size": is_array_place,
    "array": is_array_place, "set_name": is_scalar, "set_local": is_value_param, "set_element": is_array_place,
    "turn": is_turned, "op": is_operator, "compare": is_comparer, "substitute": is_truth, "tick": is_place,
    "clear": is_array_place, "delete": is_array_place, "jump": is_row, "walk": is_array_place,
    "next_key": is_other_row, "exit": is_truth, "record": is_row_of_main, "next": is_row_of_main,
    "phase": is_phase,
}
# What is asked of an instruction that has two parts; no other one has more.
ROWS = {
    "compare_as": is_compare_as, "built": is_built, "split": is_split, "print": is_writing, "printf": is_writing,
    "read": is_read, "set_range": is_set_range, "jump_if": is_jump_if, "call": is_call,
}


def are_instructions(body, scope):
    """Whether the rows of what looks like a body are instructions that may stand in it."""
    name, params, rows = body
    ending = "halt" if name == "" else "return"
    scope.in_main = name == ""
    scope.params = params
    scope.many = len(rows)
    for at, row in enumerate(rows):
        if type(row) is not tuple:
            return False
        many = len(row)
        if many == 2:
            word, part = row
            if type(word) is not str or word not in PARTS:
                return False
            scope.next_at = at + 1
            fits_part = PARTS[word]
            if not fits_part(part, scope):
                return False
        elif many == 1:
            word = row[0]
            if type(word) is not str or word not in ALONE and word != ending:
                return False
        else:
            if many != 3 or type(row[0]) is not str or row[0] not in ROWS:
                return False
            fits_row = ROWS[row[0]]
            if not fits_row(row, scope):
                return False
    return name != "" or rows.count(PHASE_END) == 1


def scope_of(code):
    """What the instructions of a value of four parts may name; None if it has no names, range bits or bodies."""
    scalars, arrays, ranges, bodies = code
    heads = heads_in(bodies)
    own_scalars = names_in(scalars)
    own_arrays = names_in(arrays)
    if heads is None or own_scalars is None or own_arrays is None or type(ranges) is not int or ranges < 0:
        return None
    if list(own_scalars.values()).count(True) < len(SPECIALS) or list(own_arrays.values()).count(True) > 0:
        return None
    return Scope(own_scalars, own_arrays, ranges, heads)


def names_in(value):
    """What any value has as names, by each whether it is special; None if it is no ascending tuple of names."""
    if type(value) is not tuple:
        return None
    found = {}
    ahead = ""
    for name in value:
        if type(name) is not str or name <= ahead:
            return None
        special = name in SPECIALS
        if not special and not is_name(name):
            return None
        found[name] = special
        ahead = name
    return found


def heads_in(value):
    """The params of each body, by its name, of what looks like a row of bodies, the main first; else None."""
    if type(value) is not tuple or len(value) == 0:
        return None
    heads = {}
    for body in value:
        if type(body) is not tuple or len(body) != 3 or type(body[2]) is not tuple or len(body[2]) == 0:
            return None
        name, params, _ = body
        if type(name) is not str or name in heads or not are_kinds(params):
            return None
        if len(heads) == 0:
            if name != "" or params != ():
                return None
        elif not is_name(name):
            return None
        heads[name] = params
    return heads


def are_kinds(value):
    """Whether any value is a tuple of the kinds of parameters."""
    if type(value) is not tuple:
        return False
    for kind in value:
        if type(kind) is not str or kind not in PARAM_KINDS:
            return False
    return True
