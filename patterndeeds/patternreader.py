"""Reading a pattern text, as far as some pattern text goes on so."""

from patterndeeds.classreader import ClassReader
from patterndeeds.patternsigns import meant_by

MOST_NESTED = 12
MOST_TIMES = 30
REPEATS = {"*": (0, None), "+": (1, None), "?": (0, 1)}
BARRED = {"*": True, "+": True, "?": True, "{": True}
PLAIN_ITEMS = {".": ("any",), "^": ("begin",), "$": ("end",)}
BEHIND_BACKSLASH = "."


class Group:
    """What was read of a pattern text: its branches, and the pieces of the one that is being read."""

    def __init__(self):
        self.branches = []
        self.pieces = []

    def end_branch(self):
        """Makes a branch of the pieces."""
        self.branches.append(merged("row", self.pieces))
        self.pieces = []

    def whole_pattern(self):
        """The pattern of all branches."""
        self.end_branch()
        return merged("or", self.branches)


def merged(tag, patterns):
    """The row or the or of some patterns, those of the same tag among them replaced by their parts."""
    parts = []
    for pattern in patterns:
        if pattern[0] == tag:
            parts.extend(pattern[1])
        else:
            parts.append(pattern)
    if len(parts) == 1:
        return parts[0]
    return (tag, tuple(parts))


class PatternReader:
    """A text that is read as a pattern text.

    at is the number of its first signs with which some pattern text begins; ending completes them,
    and is None if dead is True: if the sign at this index belongs to no pattern text that begins so.
    """

    def __init__(self, text):
        self.text = text
        self.at = 0
        self.groups = [Group()]
        self.dead = False
        self.ending = ""
        self.pattern = None
        while self.at < len(text) and not self.dead:
            self.take(text[self.at])
        if self.dead:
            self.ending = None
        elif self.ending == "" and len(self.groups) == 1:
            self.pattern = self.groups[0].whole_pattern()
        else:
            self.ending += ")" * (len(self.groups) - 1)

    def take(self, sign):
        """Takes what begins with this sign, which comes next."""
        if sign == "(":
            self.begin_group()
        elif sign == ")":
            self.end_group()
        elif sign == "|":
            self.groups[-1].end_branch()
            self.at += 1
        elif sign == "[":
            self.take_class()
        elif sign == "\\":
            self.take_quoted()
        elif sign in BARRED:
            self.dead = True
        else:
            self.at += 1
            self.take_item(PLAIN_ITEMS.get(sign, ("sign", sign)))

    def begin_group(self):
        """Takes an opening bracket."""
        if len(self.groups) > MOST_NESTED:
            self.dead = True
        else:
            self.groups.append(Group())
            self.at += 1

    def end_group(self):
        """Takes a closing bracket, which ends an item."""
        if len(self.groups) == 1:
            self.dead = True
        else:
            self.at += 1
            self.take_item(self.groups.pop().whole_pattern())

    def take_class(self):
        """Takes a class."""
        reader = ClassReader(self.text, self.at + 1)
        reader.read()
        self.at = reader.at
        self.dead = reader.dead
        self.ending = reader.ending
        if reader.done:
            self.take_item(("class", reader.signs_read()))

    def take_quoted(self):
        """Takes a backslash and the sign behind it."""
        self.at += 1
        if self.at == len(self.text):
            self.ending = BEHIND_BACKSLASH
            return
        meant = meant_by(self.text[self.at])
        if meant == "":
            self.dead = True
        else:
            self.at += 1
            self.take_item(("sign", meant))

    def take_item(self, item):
        """Makes a piece of an item that was read, with the repeat sign that stands behind it."""
        sign = self.text[self.at:self.at + 1]
        times = None
        if sign in REPEATS:
            times = REPEATS[sign]
            self.at += 1
        elif sign == "{":
            times = self.take_braces()
        if times is not None:
            item = ("repeat", item, times[0], times[1])
        self.groups[-1].pieces.append(item)

    def take_braces(self):
        """Takes a repeat sign in braces; its numbers, None if it does not end."""
        self.at += 1
        digits = self.take_number(0)
        sign = self.text[self.at:self.at + 1]
        if digits == "":
            return self.stop_at(sign, "0}")
        if sign == "}":
            self.at += 1
            return int(digits), int(digits)
        if sign != ",":
            return self.stop_at(sign, "}")
        self.at += 1
        return self.take_most(int(digits))

    def take_most(self, least):
        """Takes what stands behind the comma of a repeat sign; its numbers, None if it does not end."""
        digits = self.take_number(least)
        sign = self.text[self.at:self.at + 1]
        if digits == "" and sign == "}":
            self.at += 1
            return least, None
        if digits != "" and sign == "}" and int(digits) >= least:
            self.at += 1
            return least, int(digits)
        fitting = [str(most) for most in range(least, MOST_TIMES + 1) if str(most).startswith(digits)]
        return self.stop_at(sign, fitting[0][len(digits):] + "}")

    def take_number(self, least):
        """Takes the signs with which a number, from least on, begins; as many as there are."""
        digits = ""
        while self.at < len(self.text):
            longer = digits + self.text[self.at]
            if not [most for most in range(least, MOST_TIMES + 1) if str(most).startswith(longer)]:
                return digits
            digits = longer
            self.at += 1
        return digits

    def stop_at(self, sign, ending):
        """Notes that a repeat sign does not end: at the end of the text, or at a sign that cannot stand."""
        if sign == "":
            self.ending = ending
        else:
            self.dead = True
