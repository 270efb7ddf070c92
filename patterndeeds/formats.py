"""Formats: texts with directives, and what they make of values."""

from patterndeeds.digits import digits_of, power_of_ten
from patterndeeds.errors import InvalidFormat, RunError
from patterndeeds.signs import is_digit, is_text
from patterndeeds.values import MOST_SIGNS, integer_part, number_of, rounded, text_of

LETTERS = {"d": True, "x": True, "f": True, "s": True, "c": True}
NUMBER_LETTERS = {"d": True, "x": True, "f": True}
MOST_WIDTH = 200
MOST_PRECISION = 60
PLACES = 6


def read_format(text):
    """The format of a format text."""
    pieces = pieces_of(text)
    if pieces is None:
        raise InvalidFormat("the text is no format text")
    return pieces


def pieces_of(text):
    """The pieces of a format text; None if it is none."""
    pieces = []
    plain = ""
    at = 0
    while at < len(text):
        end = text.find("@", at)
        if end < 0:
            end = len(text)
        plain += text[at:end]
        at = end
        if text[at:at + 2] == "@@":
            plain += "@"
            at += 2
        elif at < len(text):
            piece, at = directive_at(text, at + 1)
            if piece is None:
                return None
            if plain != "":
                pieces.append(("plain", plain))
            plain = ""
            pieces.append(piece)
    if plain != "":
        pieces.append(("plain", plain))
    return pieces


def directive_at(text, at):
    """The directive whose first sign behind the @ has this index, None without one; and its end."""
    left = text[at:at + 1] == "-"
    if left:
        at += 1
    zeros = text[at:at + 1] == "0"
    if zeros:
        at += 1
    width, at = count_at(text, at, MOST_WIDTH)
    precision = None
    if text[at:at + 1] == ".":
        precision, at = count_at(text, at + 1, MOST_PRECISION)
        if precision is None:
            return None, at
    if width == 0 or text[at:at + 1] not in LETTERS:
        return None, at
    if width is None:
        width = 0
    return ("directive", left, zeros, width, precision, text[at]), at + 1


def count_at(text, at, most):
    """The number, up to most, whose first digit has this index, None without one; and its end."""
    end = at
    while end < len(text) and is_digit(text[end]):
        end += 1
    digits = text[at:end]
    if digits == "" or len(digits) > 1 and digits[0] == "0" or len(digits) > 3 or int(digits) > most:
        return None, at
    return int(digits), end


def written_format(pieces):
    """The format text of a format."""
    return "".join([written_piece(piece) for piece in pieces])


def written_piece(piece):
    """How a piece is written in a format text."""
    if piece[0] == "plain":
        return piece[1].replace("@", "@@")
    _, left, zeros, width, precision, letter = piece
    text = "@"
    if left:
        text += "-"
    if zeros:
        text += "0"
    if width > 0:
        text += str(width)
    if precision is not None:
        text += "." + str(precision)
    return text + letter


def is_format(value):
    """Whether any value is a format."""
    if type(value) is not list:
        return False
    plain = False
    for piece in value:
        if type(piece) is not tuple or len(piece) == 0 or type(piece[0]) is not str:
            return False
        if piece[0] == "plain":
            if plain or len(piece) != 2 or not is_text(piece[1]) or piece[1] == "":
                return False
        elif not is_directive(piece):
            return False
        plain = piece[0] == "plain"
    return True


def is_directive(piece):
    """Whether a tuple that begins with a word is a directive."""
    if piece[0] != "directive" or len(piece) != 6:
        return False
    _, left, zeros, width, precision, letter = piece
    if type(left) is not bool or type(zeros) is not bool:
        return False
    if type(width) is not int or not 0 <= width <= MOST_WIDTH:
        return False
    if precision is not None and (type(precision) is not int or not 0 <= precision <= MOST_PRECISION):
        return False
    return type(letter) is str and letter in LETTERS


def directive_text(piece, one):
    """The text that a directive makes of a value."""
    _, left, zeros, width, precision, letter = piece
    sign = ""
    if letter in NUMBER_LETTERS:
        sign, body = number_parts(letter, precision, one)
    elif letter == "c":
        body = text_of(one)[:1]
    else:
        body = text_of(one)[:precision]
    if left:
        return (sign + body).ljust(width)
    if zeros and letter in NUMBER_LETTERS:
        return sign + body.zfill(width - len(sign))
    return (sign + body).rjust(width)


def number_parts(letter, precision, one):
    """The sign and the digits that a directive for numbers makes of a value."""
    if letter == "f":
        if precision is None:
            precision = PLACES
        top, bottom = number_of(one)
        number = rounded(abs(top) * power_of_ten(precision), bottom)
        body = digits_of(number).zfill(precision + 1)
        if precision > 0:
            body = body[:-precision] + "." + body[-precision:]
    else:
        top = integer_part(one)
        number = abs(top)
        if letter == "d":
            body = digits_of(number)
        else:
            body = f"{number:x}"
        if precision is not None:
            body = body.zfill(precision)
    if top < 0 and number > 0:
        return "-", body
    return "", body


def formatted(text, values):
    """The formatted text of a format text and a list of values."""
    pieces = pieces_of(text)
    if pieces is None:
        raise RunError("format")
    parts = []
    used = 0
    for piece in pieces:
        if piece[0] == "plain":
            parts.append(piece[1])
        else:
            if used == len(values):
                raise RunError("format")
            parts.append(directive_text(piece, values[used]))
            used += 1
    made = "".join(parts)
    if len(made) > MOST_SIGNS:
        raise RunError("long")
    return made
