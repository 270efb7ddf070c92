"""Texts of held states: how they are written, and how they are read."""

from patterndeeds.checker import checked_shapes
from patterndeeds.errors import InvalidText
from patterndeeds.holding import check_held, is_fitting
from patterndeeds.signs import is_digit

MOST_DEEP = 12
MOST_DIGITS = 90
WORTHS = {"T": True, "F": False, "N": None}
# What stands behind a backslash in a text, and the sign that is meant.
QUOTED = {"\"": "\"", "\\": "\\", "n": "\n", "t": "\t"}


def held_text(code, held):
    """The text of a held state."""
    check_held(code, checked_shapes(code), None, held)
    return text_of_thing(held)


def text_of_thing(thing):
    """The text of an integer, a truth, None, a text or a tuple of such things."""
    if thing is None:
        return "N"
    if type(thing) is bool:
        return "T" if thing else "F"
    if type(thing) is int:
        return str(thing)
    if type(thing) is str:
        text = thing.replace("\\", "\\\\").replace("\"", "\\\"").replace("\n", "\\n").replace("\t", "\\t")
        return "\"" + text + "\""
    return "(" + ",".join([text_of_thing(part) for part in thing]) + ")"


def held_of(code, text):
    """The held state of a code with this text."""
    shapes = checked_shapes(code)
    held = ThingReader(text).whole_tuple()
    if not is_fitting(code, shapes, None, held):
        raise InvalidText(len(text))
    return held


class ThingReader:
    """Reads the text of a tuple, from the left; at is the index of the next sign.

    Where a sign cannot stand, InvalidText tells its index. A text that ends too early begins some text
    of a tuple, so that its length is told then.
    """

    def __init__(self, text):
        self.text = text
        self.at = 0

    def next_sign(self):
        """The next sign, empty at the end."""
        return self.text[self.at:self.at + 1]

    def whole_tuple(self):
        """The tuple that is all of the text."""
        if self.next_sign() != "(":
            raise InvalidText(0)
        found = self.next_tuple(1)
        if self.at < len(self.text):
            raise InvalidText(self.at)
        return found

    def next_tuple(self, level):
        """The tuple that begins here, so many brackets deep."""
        self.at += 1
        if self.next_sign() == ")":
            self.at += 1
            return ()
        things = [self.thing(level)]
        while self.next_sign() == ",":
            self.at += 1
            things.append(self.thing(level))
        if self.next_sign() != ")":
            raise InvalidText(self.at)
        self.at += 1
        return tuple(things)

    def thing(self, level):
        """The thing that begins here, within so many brackets."""
        sign = self.next_sign()
        if sign == "(" and level < MOST_DEEP:
            return self.next_tuple(level + 1)
        if sign == "\"":
            return self.next_text()
        if sign == "-" or is_digit(sign):
            return self.next_integer()
        if sign not in WORTHS:
            raise InvalidText(self.at)
        self.at += 1
        return WORTHS[sign]

    def next_integer(self):
        """The integer that begins here."""
        first = self.at
        if self.next_sign() == "-":
            self.at += 1
            if self.next_sign() == "0" or not is_digit(self.next_sign()):
                raise InvalidText(self.at)
        digits = self.at
        if self.next_sign() == "0":
            self.at += 1
        else:
            while is_digit(self.next_sign()) and self.at - digits < MOST_DIGITS:
                self.at += 1
        return int(self.text[first:self.at])

    def next_text(self):
        """The text that begins here with its quote."""
        self.at += 1
        parts = []
        while self.next_sign() != "\"":
            sign = self.next_sign()
            if sign == "" or sign == "\n" or sign == "\t":
                raise InvalidText(self.at)
            if sign == "\\":
                self.at += 1
                sign = self.next_sign()
                if sign not in QUOTED:
                    raise InvalidText(self.at)
                sign = QUOTED[sign]
            parts.append(sign)
            self.at += 1
        self.at += 1
        return "".join(parts)
