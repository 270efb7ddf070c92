"""Patterns: how they are read and written, and which values are patterns."""

from patterndeeds.errors import NoPattern, TooLarge
from patterndeeds.patternreader import MOST_NESTED, MOST_TIMES, PatternReader
from patterndeeds.patternsigns import SIGNS, quoted
from patterndeeds.signs import is_text

MOST_SIZE = 300
SINGLES = {"any": True, "begin": True, "end": True}
BRACKETED_IN_ROW = ("or",)
BRACKETED_IN_REPEAT = ("row", "or", "repeat")
SPECIAL_SIGNS = "\\.[()|*+?{^$\n\t"
SPECIAL_IN_CLASS = "\\]^-\n\t"
TIMES_SIGNS = {(0, None): "*", (1, None): "+", (0, 1): "?"}
TURNED = {"begin": ("end",), "end": ("begin",)}


def read_pattern(text):
    """The pattern that a pattern text is read as."""
    reader = PatternReader(text)
    if reader.pattern is None:
        raise NoPattern(reader.at)
    if size(reader.pattern) > MOST_SIZE:
        raise TooLarge("the pattern is too large")
    return reader.pattern


def read_or_none(text):
    """The pattern that a text is read as; None if it is no pattern text, or too large."""
    pattern = PatternReader(text).pattern
    if pattern is None or size(pattern) > MOST_SIZE:
        return None
    return pattern


def ending(text):
    """A text that makes a pattern text of this one, put behind it; None if there is none."""
    return PatternReader(text).ending


def size(pattern):
    """The size of a pattern."""
    tag = pattern[0]
    if tag == "or" or tag == "row":
        return max(1, sum([size(part) for part in pattern[1]]))
    if tag != "repeat":
        return 1
    _, part, least, most = pattern
    if most is None:
        most = least
    return size(part) * max(1, most)


def is_pattern(value):
    """Whether any value is a pattern."""
    many = checked_size(value, MOST_NESTED)
    return many is not None and many <= MOST_SIZE


def checked_size(value, nested):
    """The size of what may be a pattern with so many brackets in each other; None if it is none."""
    if type(value) is not tuple or len(value) == 0 or type(value[0]) is not str:
        return None
    tag = value[0]
    if tag in SINGLES:
        if len(value) == 1:
            return 1
    elif tag == "repeat":
        return checked_repeat(value, nested)
    elif len(value) == 2:
        if tag == "sign" and is_text(value[1]) and len(value[1]) == 1:
            return 1
        if tag == "class" and is_class(value[1]):
            return 1
        if (tag == "row" or tag == "or") and type(value[1]) is tuple:
            return checked_parts(tag, value[1], nested)
    return None


def is_class(value):
    """Whether any value is an ascending string of one or more signs."""
    if not is_text(value) or value == "":
        return False
    for sign, other in zip(value, value[1:]):
        if sign >= other:
            return False
    return True


def checked_repeat(value, nested):
    """The size of what may be a repeat; None if it is none."""
    if len(value) != 4 or not is_times(value[2], 0):
        return None
    _, part, least, most = value
    if most is not None and not is_times(most, least):
        return None
    many = checked_part(part, nested, BRACKETED_IN_REPEAT)
    if many is None:
        return None
    if most is None:
        most = least
    return many * max(1, most)


def is_times(value, least):
    """Whether any value is a number of times from least on."""
    return type(value) is int and least <= value <= MOST_TIMES


def checked_parts(tag, parts, nested):
    """The size of a row or an or with these parts; None if there is none."""
    if len(parts) == 1 or tag == "or" and parts == ():
        return None
    many = 0
    for part in parts:
        if type(part) is not tuple or part == () or part[0] == tag:
            return None
        one = checked_part(part, nested, BRACKETED_IN_ROW)
        if one is None:
            return None
        many += one
    return max(1, many)


def checked_part(part, nested, bracketed):
    """The size of what may be a part that stands in brackets if its tag is one of these."""
    if type(part) is tuple and len(part) > 0 and part[0] in bracketed:
        if nested == 0:
            return None
        nested -= 1
    return checked_size(part, nested)


def written_pattern(pattern):
    """The written form of a pattern."""
    tag = pattern[0]
    if tag == "sign":
        return written_sign(pattern[1], SPECIAL_SIGNS)
    if tag == "any":
        return "."
    if tag == "begin":
        return "^"
    if tag == "end":
        return "$"
    if tag == "class":
        return written_class(pattern[1])
    if tag == "or":
        return "|".join([written_pattern(part) for part in pattern[1]])
    if tag == "row":
        return "".join([written_part(part, BRACKETED_IN_ROW) for part in pattern[1]])
    return written_part(pattern[1], BRACKETED_IN_REPEAT) + written_times(pattern[2], pattern[3])


def written_part(pattern, bracketed):
    """The written form of a part, which stands in brackets if its tag is one of these."""
    if pattern[0] in bracketed:
        return "(" + written_pattern(pattern) + ")"
    return written_pattern(pattern)


def written_times(least, most):
    """The shortest repeat sign for these numbers."""
    if (least, most) in TIMES_SIGNS:
        return TIMES_SIGNS[(least, most)]
    if most is None:
        return "{" + str(least) + ",}"
    if least == most:
        return "{" + str(least) + "}"
    return "{" + str(least) + "," + str(most) + "}"


def written_sign(sign, special):
    """A sign, with a backslash ahead if it is one of the special ones."""
    if sign in special:
        return quoted(sign)
    return sign


def written_class(signs):
    """The written form of a class."""
    head = "["
    if len(SIGNS) // 2 < len(signs) < len(SIGNS):
        head = "[^"
        signs = "".join([sign for sign in SIGNS if sign not in signs])
    return head + "".join([written_run(run) for run in runs_of(signs)]) + "]"


def runs_of(signs):
    """The list of the strings of neighbouring signs that ascending signs are made of."""
    runs = []
    for sign in signs:
        if runs and SIGNS.index(sign) == SIGNS.index(runs[-1][-1]) + 1:
            runs[-1] += sign
        else:
            runs.append(sign)
    return runs


def written_run(run):
    """How neighbouring signs are written in a class."""
    if len(run) > 2:
        return written_sign(run[0], SPECIAL_IN_CLASS) + "-" + written_sign(run[-1], SPECIAL_IN_CLASS)
    return "".join([written_sign(sign, SPECIAL_IN_CLASS) for sign in run])


def turned(pattern):
    """The pattern that takes what this one takes, written backwards."""
    tag = pattern[0]
    if tag in TURNED:
        return TURNED[tag]
    if tag == "row":
        return ("row", tuple([turned(part) for part in pattern[1][::-1]]))
    if tag == "or":
        return ("or", tuple([turned(part) for part in pattern[1]]))
    if tag == "repeat":
        return ("repeat", turned(pattern[1]), pattern[2], pattern[3])
    return pattern
