"""Derivations: how a pattern takes a stretch."""

SINGLES = {"sign": True, "any": True, "class": True, "begin": True, "end": True}
DONE = ("one",)


def bits_of(mask):
    """The ascending list of the indexes of the bits of a mask."""
    found = []
    while mask:
        low = mask & -mask
        found.append(low.bit_length() - 1)
        mask ^= low
    return found


def end_of_single(pattern, text, start):
    """The end of what a sign, any, class, begin or end takes at an index; None if it takes nothing."""
    tag = pattern[0]
    if tag == "begin" or tag == "end":
        if tag == "begin" and start == 0 or tag == "end" and start == len(text):
            return start
        return None
    if start == len(text) or tag != "any" and text[start] not in pattern[1]:
        return None
    return start + 1


class Chart:
    """What a part of a pattern takes in a text.

    known has for each start that was asked for the mask of the ends; numbered, for a repeat, the masks
    of the ends of so many copies; leading, for one without most, for each index the mask of all to
    which any number of copies that are not empty lead from there.
    """

    def __init__(self, pattern, text):
        self.pattern = pattern
        self.text = text
        self.known = {}
        self.numbered = {}
        self.leading = []
        self.parts = []
        if pattern[0] == "repeat":
            self.parts = [Chart(pattern[1], text)]
        elif pattern[0] not in SINGLES:
            self.parts = [Chart(part, text) for part in pattern[1]]

    def ends_from(self, start):
        """The mask of the ends of the stretches that start at an index and are taken."""
        mask = self.known.get(start)
        if mask is None:
            mask = self.new_ends(start)
            self.known[start] = mask
        return mask

    def new_ends(self, start):
        """What ends_from tells, worked out for the first time."""
        tag = self.pattern[0]
        if tag == "row":
            return self.row_masks(start)[-1]
        mask = 0
        if tag == "or":
            for part in self.parts:
                mask |= part.ends_from(start)
        elif tag == "repeat":
            for step in self.repeat_steps(start)[self.pattern[2]:]:
                mask |= step
            if self.pattern[3] is None:
                mask = self.led_to(mask)
        else:
            end = end_of_single(self.pattern, self.text, start)
            if end is not None:
                mask = 1 << end
        return mask

    def ends_behind(self, mask):
        """The mask of the ends of the stretches that start at the indexes of a mask."""
        ends = 0
        for start in bits_of(mask):
            ends |= self.ends_from(start)
        return ends

    def longer(self, mask):
        """The mask of the ends of those of them that are not empty."""
        ends = 0
        for start in bits_of(mask):
            ends |= self.ends_from(start) & ~(1 << start)
        return ends

    def row_masks(self, start):
        """For a row the list of the masks of the indexes ahead of each part, and at the end."""
        masks = [1 << start]
        for part in self.parts:
            masks.append(part.ends_behind(masks[-1]))
        return masks

    def repeat_steps(self, start):
        """For a repeat the list of the masks behind each number of copies.

        Copies beyond the least ones are not empty, and lead to no index to which fewer lead. Without
        most there are none of them here.
        """
        if start not in self.numbered:
            _, _, least, most = self.pattern
            steps = [1 << start]
            for _ in range(least):
                steps.append(self.parts[0].ends_behind(steps[-1]))
            seen = steps[-1]
            while most is not None and len(steps) <= most and steps[-1] > 0:
                steps.append(self.parts[0].longer(steps[-1]) & ~seen)
                seen = seen | steps[-1]
            self.numbered[start] = steps
        return self.numbered[start]

    def led_to(self, mask):
        """The mask of the indexes to which copies that are not empty lead from those of a mask."""
        if self.leading == []:
            leading = []
            for start in range(len(self.text), -1, -1):
                ends = 1 << start
                for end in bits_of(self.parts[0].longer(1 << start)):
                    ends |= leading[len(self.text) - end]
                leading.append(ends)
            self.leading = leading[::-1]
        ends = 0
        for start in bits_of(mask):
            ends |= self.leading[start]
        return ends

    def derivation(self, start, end):
        """A derivation over a stretch that is taken."""
        tag = self.pattern[0]
        if tag == "row":
            return ("row", tuple(self.row_parts(start, end)))
        if tag == "repeat":
            return ("repeat", tuple(self.copies(start, end)))
        if tag == "or":
            for at, part in enumerate(self.parts):
                if part.ends_from(start) >> end & 1:
                    return ("or", at, part.derivation(start, end))
        return DONE

    def first_start(self, mask, end):
        """The first index of a mask at which a stretch starts that is taken and ends here."""
        return [at for at in bits_of(mask) if self.ends_from(at) >> end & 1][0]

    def row_parts(self, start, end):
        """The derivations of the parts of a row."""
        found = []
        masks = self.row_masks(start)
        for part, mask in zip(self.parts[::-1], masks[-2::-1]):
            at = part.first_start(mask, end)
            found.append(part.derivation(at, end))
            end = at
        return found[::-1]

    def copies(self, start, end):
        """The derivations of the copies of a repeat."""
        steps = self.repeat_steps(start)
        number = self.pattern[2]
        behind = []
        if self.pattern[3] is None:
            at = [one for one in bits_of(steps[-1]) if self.led_to(1 << one) >> end & 1][0]
            behind = self.longer_copies(at, end)
            end = at
        else:
            while not steps[number] >> end & 1:
                number += 1
        found = []
        for step in range(number - 1, -1, -1):
            # If a copy that is not empty ends here, it starts ahead of an empty one.
            at = self.parts[0].first_start(steps[step], end)
            found.append(self.parts[0].derivation(at, end))
            end = at
        return found[::-1] + behind

    def longer_copies(self, start, end):
        """The derivations of copies that are not empty and lead from a start to an end."""
        found = []
        while start != end:
            for at in bits_of(self.parts[0].longer(1 << start)):
                if self.leading[at] >> end & 1:
                    found.append(self.parts[0].derivation(start, at))
                    start = at
                    break
        return found


def end_of_derivation(pattern, text, start, value):
    """The end of what a derivation, which any value may be, takes from an index on; None if it is none."""
    if type(value) is not tuple or len(value) == 0 or type(value[0]) is not str:
        return None
    tag = pattern[0]
    if tag in SINGLES:
        if len(value) == 1 and value[0] == "one":
            return end_of_single(pattern, text, start)
        return None
    if value[0] != tag:
        return None
    if tag == "or":
        return end_of_choice(pattern[1], text, start, value)
    if len(value) != 2 or type(value[1]) is not tuple:
        return None
    return end_of_parts(pattern, text, start, value[1])


def end_of_choice(parts, text, start, value):
    """The end of what may be the derivation of an or with these parts."""
    if len(value) != 3 or type(value[1]) is not int or not 0 <= value[1] < len(parts):
        return None
    return end_of_derivation(parts[value[1]], text, start, value[2])


def end_of_parts(pattern, text, start, values):
    """The end of what may be the derivations of the parts of a row or the copies of a repeat."""
    if pattern[0] == "row":
        parts = pattern[1]
        if len(values) != len(parts):
            return None
    else:
        _, part, least, most = pattern
        if len(values) < least or most is not None and len(values) > most:
            return None
        parts = [part] * len(values)
    end = start
    for part, value in zip(parts, values):
        end = end_of_derivation(part, text, end, value)
        if end is None:
            return None
    return end
