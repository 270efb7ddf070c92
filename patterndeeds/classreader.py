"""Reading a class of a pattern text, sign by sign, as far as some class goes on so."""

from patterndeeds.patternsigns import ALL, QUOTED, SIGNS, bit_of, meant_by, quoted, range_mask, signs_of

# What stands last in what was read of a class.
NOTHING = "nothing"
SINGLE = "single"
DASH = "dash"
WHOLE = "whole"
CLOSING = "closing"


class ClassReader:
    """A class of a text, read from the index behind its bracket.

    stage tells what stands last: nothing; a single sign, which may begin a range; a dash behind
    one, of a range or the last entry; a whole entry; or a dash that has to be the last entry. at is
    the index up to which some class goes on as the text does. If the text ends in the class, ending
    completes it; if dead is True, no class has the sign at this index.
    """

    def __init__(self, text, at):
        self.text = text
        self.at = at
        self.negated = False
        self.mask = 0
        self.stage = NOTHING
        self.single = ""
        self.done = False
        self.dead = False
        self.ending = ""

    def read(self):
        """Reads the class to its end, to the end of the text, or to a sign that cannot stand."""
        if self.text[self.at:self.at + 1] == "^":
            self.negated = True
            self.at += 1
        while self.at < len(self.text) and not self.done and not self.dead:
            self.take(self.text[self.at])
        if not self.done and not self.dead and self.ending == "":
            self.ending = self.ending_here()

    def signs_read(self):
        """The signs of the class."""
        if self.negated:
            return signs_of(ALL & ~self.mask)
        return signs_of(self.mask)

    def may_have(self, mask):
        """Whether the class may have these signs among its entries: some sign has to be left."""
        return not self.negated or self.mask | mask != ALL

    def take(self, sign):
        """Takes the sign that comes next."""
        if sign == "]":
            self.close()
        elif sign == "-":
            self.take_dash()
        elif self.stage == CLOSING:
            self.dead = True
        elif sign == "\\":
            self.take_quoted()
        else:
            self.take_sign(sign)

    def close(self):
        """Takes the bracket that ends the class."""
        if self.stage == DASH:
            self.enter(bit_of("-"), WHOLE)
        if self.stage == NOTHING:
            self.dead = True
        if not self.dead:
            self.at += 1
            self.done = True

    def take_dash(self):
        """Takes a dash that is not quoted."""
        if self.stage == SINGLE:
            self.stage = DASH
        elif self.stage == NOTHING:
            self.enter(bit_of("-"), WHOLE)
        elif self.stage == WHOLE:
            self.enter(bit_of("-"), CLOSING)
        else:
            self.dead = True
        if not self.dead:
            self.at += 1

    def take_quoted(self):
        """Takes a backslash and the sign behind it."""
        if self.quotable() == "":
            self.dead = True
            return
        self.at += 1
        if self.at == len(self.text):
            self.ending = self.quotable() + "]"
            return
        meant = meant_by(self.text[self.at])
        if meant == "":
            self.dead = True
        else:
            self.take_sign(meant)

    def take_sign(self, sign):
        """Takes the sign that is meant as an entry or as the end of a range."""
        if self.stage == DASH:
            if sign < self.single:
                self.dead = True
            else:
                self.enter(range_mask(self.single, sign), WHOLE)
        else:
            self.single = sign
            self.enter(bit_of(sign), SINGLE)
        if not self.dead:
            self.at += 1

    def enter(self, mask, stage):
        """Adds the signs of an entry, if the class may have them."""
        if self.may_have(mask):
            self.mask |= mask
            self.stage = stage
        else:
            self.dead = True

    def quotable(self):
        """What may stand behind a backslash that comes next; empty if nothing may."""
        for sign in list(QUOTED) + list(SIGNS):
            meant = meant_by(sign)
            if meant != "":
                mask = bit_of(meant)
                if self.stage == DASH:
                    mask = range_mask(self.single, meant)
                if mask > 0 and self.may_have(mask):
                    return sign
        return ""

    def ending_here(self):
        """What completes a class at whose end the text ends, none of its entries half told."""
        if self.stage == NOTHING:
            return "a]"
        if self.stage == DASH:
            return (quoted(self.single) or self.single) + "]"
        return "]"
