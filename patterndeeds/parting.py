"""Parting: texts into fields, and inputs into records."""

from patterndeeds.automata import Automaton
from patterndeeds.errors import RunError
from patterndeeds.searching import Search, cuts_in
from patterndeeds.values import BLANKS, MOST_SIGNS


class Parter:
    """Parts texts into fields, as a separator of fields tells."""

    def __init__(self, separator, paragraphs):
        self.kind = separator[0]
        self.paragraphs = paragraphs
        self.sign = ""
        self.automaton = None
        if self.kind == "sign":
            self.sign = separator[1]
        elif self.kind == "pattern":
            pattern = separator[1]
            if paragraphs:
                pattern = ("or", (pattern, ("sign", "\n")))
            self.automaton = Automaton(pattern)

    def fields(self, text):
        """The list of the fields of a text."""
        if text == "":
            return []
        if self.kind == "blanks":
            return text.split()
        if self.kind == "pattern":
            return left_by(text, cuts_in(self.automaton, text))
        if self.kind == "each":
            if self.paragraphs:
                text = text.replace("\n", "")
            return list(text)
        if self.paragraphs:
            text = text.replace("\n", self.sign)
        return text.split(self.sign)

    def gaps(self, text):
        """The list of the stretches that the fields of a text leave."""
        if self.kind == "pattern":
            return cuts_in(self.automaton, text)
        rows = [(at, at + 1) for at, sign in enumerate(text) if self.parts_at(sign)]
        if self.kind == "blanks":
            return run_together(rows)
        return rows

    def parts_at(self, sign):
        """Whether a sign parts fields."""
        if self.kind == "blanks":
            return sign in BLANKS
        return sign == self.sign or self.paragraphs and sign == "\n"


def left_by(text, gaps):
    """The list of the texts ahead of, between and behind some gaps of a text."""
    fields = []
    first = 0
    for start, end in gaps:
        fields.append(text[first:start])
        first = end
    fields.append(text[first:])
    return fields


def run_together(rows):
    """Stretches in which neighbouring ones are one."""
    found = []
    for start, end in rows:
        if found and found[-1][1] == start:
            found[-1] = (found[-1][0], end)
        else:
            found.append((start, end))
    return found


class Taker:
    """Takes records off an input, as a separator of records tells."""

    def __init__(self, separator):
        self.kind = separator[0]
        self.border = "\n\n"
        self.automaton = None
        if self.kind == "sign":
            self.border = separator[1]
        elif self.kind == "pattern":
            self.automaton = Automaton(separator[1])

    def next_record(self, text, at, whole):
        """What comes next of an input behind its first signs."""
        start = at
        if self.kind == "paragraphs":
            while text[start:start + 1] == "\n":
                start += 1
        gap = self.gap(text, start, whole)
        if gap is not None:
            return self.taken(text[start:gap[0]], gap[1])
        if not whole:
            return ("more",)
        if start == len(text):
            return ("none",)
        if self.kind == "paragraphs":
            return self.taken(text[start:].removesuffix("\n"), len(text))
        return self.taken(text[start:], len(text))

    def taken(self, text, at):
        """What next_record tells of a record with this text."""
        if len(text) > MOST_SIGNS:
            raise RunError("long")
        return ("record", text, at)

    def gap(self, text, start, whole):
        """The stretch that ends the record which starts at an index; None if none is told for sure."""
        if self.kind != "pattern":
            place = text.find(self.border, start)
            if place < 0:
                return None
            return place, place + len(self.border)
        rest = text[start:]
        search = Search(self.automaton, rest, 0, not whole)
        if search.stretch is None or not whole and not self.is_settled(search, rest):
            return None
        return start + search.stretch[0], start + search.stretch[1]

    def is_settled(self, search, rest):
        """Whether nothing behind a rest changes the cut that a search found in it."""
        if search.waiting() > 0:
            return False
        automaton = self.automaton
        # Only where an end is asked for, the end of the rest may change what is taken.
        return automaton.last == automaton.ended or Search(automaton, rest, 0, False).stretch == search.stretch

    def unsettled(self, text):
        """None if a text, as a rest, is settled; else two texts that lead to unlike first takings."""
        if self.kind != "pattern":
            start = len(text) - len(text.lstrip("\n"))
            if self.kind == "sign":
                start = 0
            if self.gap(text, start, False) is None:
                return "", "a"
            return None
        search = Search(self.automaton, text, 0, True)
        if search.waiting() > 0:
            return "", self.automaton.shortest_way(search.waiting())
        if search.stretch is None or not self.is_settled(search, text):
            return "", "a"
        return None
