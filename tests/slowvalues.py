"""What the document says of values and formats, worked out with fractions and regular expressions."""

import re
from fractions import Fraction

import patterntexts
import slowpatterns

GREATEST = 10 ** 60
NUMBER = re.compile(r"[ \t\n]*([+-]?(?:[0-9]+\.?[0-9]*|\.[0-9]+))", re.S)
FORM = re.compile(r"[ \t\n]*[+-]?([0-9]+\.?[0-9]*|\.[0-9]+)[ \t\n]*", re.S)
DIRECTIVE = re.compile(r"@(-?)(0?)([1-9][0-9]*)?(?:\.(0|[1-9][0-9]*))?([dxfsc])")


class Failed(Exception):
    """The error of a run."""

    def __init__(self, word):
        Exception.__init__(self, word)
        self.word = word


def number(one):
    """The number of a value, as a fraction."""
    if one[0] == "number":
        return Fraction(one[1], one[2])
    if one[0] == "unset":
        return Fraction(0)
    found = NUMBER.match(one[1])
    if not found:
        return Fraction(0)
    digits = found.group(1)
    return Fraction(int(digits.replace(".", "")), 10 ** len(digits.partition(".")[2]))


def value(fraction):
    """A fraction as a value."""
    fraction = Fraction(fraction)
    if abs(fraction.numerator) > GREATEST or fraction.denominator > GREATEST:
        raise Failed("great")
    return ("number", fraction.numerator, fraction.denominator)


def places(fraction, many):
    """The digits of a fraction with so many places, half away from 0, with a sign if it is below 0."""
    shifted = abs(fraction) * 10 ** many
    whole = int(shifted)
    if shifted - whole >= Fraction(1, 2):
        whole += 1
    digits = str(whole).rjust(many + 1, "0")
    if many:
        digits = digits[:-many] + "." + digits[-many:]
    return ("-" if fraction < 0 and whole > 0 else ""), digits


def text(one):
    if one[0] in ("text", "seen"):
        return one[1]
    if one[0] == "unset":
        return ""
    sign, digits = places(Fraction(one[1], one[2]), 6)
    return sign + digits.rstrip("0").rstrip(".")


def like_number(one):
    return one[0] in ("number", "unset") or one[0] == "seen" and FORM.fullmatch(one[1]) is not None


def true(one):
    if one[0] == "unset":
        return False
    if like_number(one):
        return number(one) != 0
    return one[1] != ""


def compared(one, other):
    if like_number(one) and like_number(other):
        one, other = number(one), number(other)
    else:
        one, other = text(one), text(other)
    return (one > other) - (one < other)


def cut(fraction):
    """The integer part, cut towards 0."""
    return int(fraction)


def operated(operator, one, other):
    a, b = number(one), number(other)
    if operator == "+":
        return value(a + b)
    if operator == "-":
        return value(a - b)
    if operator == "*":
        return value(a * b)
    if operator == "^":
        if b.denominator != 1 or not -100 <= b <= 100:
            raise Failed("power")
        if a == 0 and b < 0:
            raise Failed("divide")
        return value(a ** int(b))
    if b == 0:
        raise Failed("divide")
    return value(a / b if operator == "/" else a - b * cut(a / b))


def formatted(form, values):
    values = list(values)
    parts, at = [], 0
    while at < len(form):
        if form[at] != "@":
            parts.append(form[at])
            at += 1
        elif form[at:at + 2] == "@@":
            parts.append("@")
            at += 2
        else:
            found = DIRECTIVE.match(form, at)
            if not found or int(found[3] or 1) > 200 or int(found[4] or 0) > 60:
                raise Failed("format")
            parts.append(found)
            at = found.end()
    if sum(not isinstance(part, str) for part in parts) > len(values):
        raise Failed("format")
    made = "".join(part if isinstance(part, str) else directive(part, values.pop(0)) for part in parts)
    if len(made) > 4000:
        raise Failed("long")
    return made


def directive(found, one):
    left, zeros, width, precision, letter = found.groups()
    sign = ""
    if letter == "s":
        body = text(one) if precision is None else text(one)[:int(precision)]
    elif letter == "c":
        body = text(one)[:1]
    elif letter == "f":
        sign, body = places(number(one), 6 if precision is None else int(precision))
    else:
        whole = cut(number(one))
        sign = "-" if whole < 0 else ""
        body = (str(abs(whole)) if letter == "d" else hex(abs(whole))[2:]).rjust(int(precision or 0), "0")
    lack = int(width or 0) - len(sign + body)
    if left:
        return sign + body + " " * lack
    if zeros and letter in "dxf":
        return sign + "0" * lack + body
    return " " * lack + sign + body


def size(pattern):
    if pattern[0] in ("row", "or"):
        return max(1, sum(size(part) for part in pattern[1]))
    if pattern[0] == "repeat":
        return size(pattern[1]) * max(1, pattern[2] if pattern[3] is None else pattern[3])
    return 1


def pattern(form):
    """The pattern of a text."""
    found = patterntexts.read(form)
    if found is None or size(found) > 300:
        raise Failed("pattern")
    return found


def built(word, values):
    texts = [text(one) for one in values]
    if word == "length":
        return value(len(texts[0]))
    if word == "index":
        return value(texts[0].find(texts[1]) + 1 if texts[1] else 0)
    if word == "substr":
        first = number(values[1])
        last = first + number(values[2]) if len(values) > 2 else len(texts[0]) + 1
        return ("text", "".join(sign for at, sign in enumerate(texts[0], 1) if first <= at < last))
    if word == "tolower":
        return ("text", "".join(chr(ord(sign) + 32) if "A" <= sign <= "Z" else sign for sign in texts[0]))
    if word == "toupper":
        return ("text", "".join(chr(ord(sign) - 32) if "a" <= sign <= "z" else sign for sign in texts[0]))
    if word == "int":
        return value(cut(number(values[0])))
    return ("text", formatted(texts[0], values[1:]))


def replaced(found, new, old, every):
    made, many = slowpatterns.replaced(found, new, old, every)
    if len(made) > 4000:
        raise Failed("long")
    return made, many
