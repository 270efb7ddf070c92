"""Values: their numbers and texts, how they compare, and what operators make of them."""

from math import gcd

from patterndeeds.digits import digits_of, integer_of, power_of_ten
from patterndeeds.errors import RunError
from patterndeeds.signs import is_text

GREATEST = 10 ** 60
MOST_SIGNS = 4000
MOST_POWER = 100
MILLION = 10 ** 6
BLANKS = " \t\n"
UNSET = ("unset",)
ZERO = ("number", 0, 1)
ONE = ("number", 1, 1)
MINUS_ONE = ("number", -1, 1)


def is_value(value):
    """Whether any value is a value of a run, within the bounds of its numbers and texts."""
    if type(value) is not tuple:
        return False
    if len(value) == 3:
        tag, top, bottom = value
        if type(tag) is not str or tag != "number" or type(top) is not int or type(bottom) is not int:
            return False
        if bottom == 1:
            return -GREATEST <= top <= GREATEST
        return 1 <= bottom <= GREATEST and -GREATEST <= top <= GREATEST and gcd(top, bottom) == 1
    if len(value) == 2:
        tag, text = value
        return type(tag) is str and (tag == "text" or tag == "seen") and is_text(text) and len(text) <= MOST_SIGNS
    return len(value) == 1 and type(value[0]) is str and value[0] == "unset"


def has_number_form(text):
    """Whether a text, blanks at its ends aside, is a number."""
    body = text.strip(BLANKS)
    if body[:1] == "-" or body[:1] == "+":
        body = body[1:]
    body = body.replace(".", "", 1)
    return body.isdigit()


def truth_value(truth):
    """A truth as a number."""
    if truth:
        return ONE
    return ZERO


def is_like_number(one):
    """Whether a value is compared by its number."""
    tag = one[0]
    if tag == "seen":
        return has_number_form(one[1])
    return tag != "text"


def is_true(one):
    """Whether a value is true."""
    tag = one[0]
    if tag == "number":
        return one[1] != 0
    if tag == "unset":
        return False
    if tag == "seen" and has_number_form(one[1]):
        return beginning_number(one[1])[0] != 0
    return one[1] != ""


def number_of(one):
    """The number of a value, a fraction (top, bottom) in lowest terms."""
    tag = one[0]
    if tag == "number":
        return one[1], one[2]
    if tag == "unset":
        return 0, 1
    return beginning_number(one[1])


def beginning_number(text):
    """The number that the longest beginning of number form tells, 0 without one."""
    body = text.lstrip(BLANKS)
    below = body[:1] == "-"
    if below or body[:1] == "+":
        body = body[1:]
    digits = body[:end_of_digits(body, 0)]
    places = ""
    if body[len(digits):len(digits) + 1] == ".":
        first = len(digits) + 1
        places = body[first:end_of_digits(body, first)]
    top = integer_of(digits + places)
    if below:
        top = -top
    return lowest(top, power_of_ten(len(places)))


def end_of_digits(text, at):
    """The index of the first sign, from an index on, that is no digit."""
    while at < len(text) and "0" <= text[at] <= "9":
        at += 1
    return at


def lowest(top, bottom):
    """A fraction in lowest terms; its bottom is above 0."""
    shared = gcd(top, bottom)
    if shared > 1:
        return top // shared, bottom // shared
    return top, bottom


def text_of(one):
    """The text of a value."""
    tag = one[0]
    if tag == "number":
        return number_text(one[1], one[2])
    if tag == "unset":
        return ""
    return one[1]


def number_text(top, bottom):
    """The text of a number, rounded to six places."""
    sign = ""
    if top < 0:
        sign = "-"
    if bottom == 1:
        return sign + digits_of(abs(top))
    integer, places = divmod(rounded(abs(top) * MILLION, bottom), MILLION)
    if integer == 0 and places == 0:
        return "0"
    if places == 0:
        return sign + digits_of(integer)
    return sign + digits_of(integer) + "." + str(places).zfill(6).rstrip("0")


def rounded(top, bottom):
    """The integer next to a fraction from 0 on, half upwards."""
    return (2 * top + bottom) // (2 * bottom)


def compared(one, other):
    """-1, 0 or 1, as a value is less than, equal to or greater than another one."""
    if is_like_number(one) and is_like_number(other):
        return compared_numbers(one, other)
    return order_of(text_of(one), text_of(other))


def compared_numbers(one, other):
    """How the numbers of two values compare."""
    top, bottom = number_of(one)
    other_top, other_bottom = number_of(other)
    return order_of(top * other_bottom, other_top * bottom)


def order_of(one, other):
    """-1, 0 or 1, as an integer or text is less than, equal to or greater than another one."""
    if one < other:
        return -1
    if one > other:
        return 1
    return 0


def number_value(top, bottom):
    """A fraction as a value; RunError("great") beyond the bounds."""
    top, bottom = lowest(top, bottom)
    if abs(top) > GREATEST or bottom > GREATEST:
        raise RunError("great")
    return ("number", top, bottom)


def operated(operator, one, other):
    """What an operator makes of the numbers of two values."""
    top, bottom = number_of(one)
    other_top, other_bottom = number_of(other)
    if operator == "+":
        return number_value(top * other_bottom + other_top * bottom, bottom * other_bottom)
    if operator == "-":
        return number_value(top * other_bottom - other_top * bottom, bottom * other_bottom)
    if operator == "*":
        return number_value(top * other_top, bottom * other_bottom)
    if operator == "^":
        return power(top, bottom, other_top, other_bottom)
    if other_top == 0:
        raise RunError("divide")
    if operator == "@":
        return remainder(top * other_bottom, other_top * bottom, bottom * other_bottom)
    if other_top < 0:
        return number_value(-top * other_bottom, bottom * -other_top)
    return number_value(top * other_bottom, bottom * other_top)


def remainder(top, other_top, bottom):
    """What a whole number of times one fraction leaves of another one, both with this bottom."""
    rest = divmod(abs(top), abs(other_top))[1]
    if top < 0:
        rest = -rest
    return number_value(rest, bottom)


def power(top, bottom, other_top, other_bottom):
    """A fraction to the power of another one, which has to be an integer that is not too great."""
    if other_bottom != 1 or abs(other_top) > MOST_POWER:
        raise RunError("power")
    if other_top < 0:
        if top == 0:
            raise RunError("divide")
        if top < 0:
            bottom = -bottom
        top, bottom = bottom, abs(top)
    new_top, new_bottom = 1, 1
    for _ in range(abs(other_top)):
        new_top, new_bottom = new_top * top, new_bottom * bottom
        # Neither gets nearer to 0 again, so the other factors do not matter.
        if abs(new_top) > GREATEST or new_bottom > GREATEST:
            raise RunError("great")
    return ("number", new_top, new_bottom)


def as_number(one):
    """The number of a value, as a value."""
    if one[0] == "number":
        return one
    top, bottom = number_of(one)
    return number_value(top, bottom)


def minus(one):
    """The opposite of the number of a value, as a value."""
    top, bottom = number_of(one)
    return number_value(-top, bottom)


def whole(one):
    """The integer part of the number of a value, as a value."""
    return number_value(integer_part(one), 1)


def integer_part(one):
    """The integer part of the number of a value, cut towards 0."""
    top, bottom = number_of(one)
    if top < 0:
        return -(-top // bottom)
    return top // bottom


def put_together(one, other):
    """The texts of two values, one behind the other, as a value."""
    text = text_of(one) + text_of(other)
    if len(text) > MOST_SIGNS:
        raise RunError("long")
    return ("text", text)


def round_of(values):
    """The least round of a list of values; None if there is none."""
    rows = [(is_like_number(one), number_of(one), text_of(one)) for one in values]
    greater = [not_less(row, rows) for row in rows]
    for first, row in enumerate(greater):
        for second in range(len(rows)):
            thirds = greater[second] & ~row
            if row >> second & 1 and thirds != 0:
                return first, second, (thirds & -thirds).bit_length() - 1
    return None


def not_less(row, rows):
    """The mask of those of some values, told as in round_of, that are not less than one of them."""
    like, (top, bottom), text = row
    mask = 0
    bit = 1
    for other_like, (other_top, other_bottom), other_text in rows:
        if like and other_like:
            if top * other_bottom <= other_top * bottom:
                mask |= bit
        elif text <= other_text:
            mask |= bit
        bit = 2 * bit
    return mask
