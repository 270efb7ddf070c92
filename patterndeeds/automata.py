"""Automata that find what patterns take.

The positions of an automaton are the signs, anys and classes of its pattern, those of what is
repeated once for each copy. A set of positions is a mask, a number with a bit for each. An empty
stretch is taken or not by where it stands: null is a mask of such standings, with the bits EMPTY,
EMPTY_FIRST, EMPTY_LAST and EMPTY_BOTH.
"""

from patterndeeds.patternsigns import SIGNS

# An empty stretch inside of a text; at its beginning; at its end; both.
EMPTY = 1
EMPTY_FIRST = 2
EMPTY_LAST = 4
EMPTY_BOTH = 8
EVERYWHERE = 15
NULLS = {"begin": 10, "end": 12}
NOWHERE = 0


class Edges:
    """What a part of a pattern begins and ends with.

    first and begun are the masks of the positions with which it begins, behind the beginning of the
    text and at it; last and ended the lists of those with which it ends, ahead of the end and at it.
    """

    def __init__(self, null, first, begun, last, ended):
        self.null = null
        self.first = first
        self.begun = begun
        self.last = last
        self.ended = ended


class Automaton:
    """The positions of a pattern, and which ones come behind which.

    sets has the signs that each position takes, follow the mask of those that come behind each one,
    inside of a text. masks, behind and leading keep what was worked out once: the positions that take
    a sign, those that come behind some, and those from which a way leads to the end.
    """

    def __init__(self, pattern):
        self.sets = []
        self.follow = []
        self.masks = {}
        self.behind = {0: 0}
        self.leading = None
        whole = self.built_part(pattern)
        self.null = whole.null
        self.first = whole.first
        self.begun = whole.begun
        self.last = mask_of(whole.last)
        self.ended = mask_of(whole.ended)

    def built_part(self, pattern):
        """Makes the positions of a part."""
        tag = pattern[0]
        if tag == "row":
            whole = Edges(EVERYWHERE, 0, 0, [], [])
            for part in pattern[1]:
                whole = self.in_row(whole, self.built_part(part))
            return whole
        if tag == "or":
            return united([self.built_part(part) for part in pattern[1]])
        if tag == "repeat":
            return self.built_repeat(pattern)
        if tag in NULLS:
            return Edges(NULLS[tag], 0, 0, [], [])
        signs = SIGNS
        if tag != "any":
            signs = pattern[1]
        at = len(self.sets)
        self.sets.append(signs)
        self.follow.append(0)
        return Edges(NOWHERE, 1 << at, 1 << at, [at], [at])

    def built_repeat(self, pattern):
        """Makes the positions of all copies of a repeat."""
        _, part, least, most = pattern
        whole = Edges(EVERYWHERE, 0, 0, [], [])
        copies = most
        if most is None:
            copies = max(1, least)
        for number in range(copies):
            one = self.built_part(part)
            if most is None and number == copies - 1:
                self.lead(one.last, one.first)
            if number >= least:
                one.null = EVERYWHERE
            whole = self.in_row(whole, one)
        return whole

    def lead(self, positions, mask):
        """Lets positions of a mask come behind each of some positions."""
        for position in positions:
            self.follow[position] |= mask

    def in_row(self, one, other):
        """What two parts in a row begin and end with."""
        self.lead(one.last, other.first)
        first, begun, last, ended = one.first, one.begun, other.last, other.ended
        if one.null & EMPTY:
            first |= other.first
        if one.null & EMPTY_FIRST:
            begun |= other.begun
        if other.null & EMPTY:
            last = one.last + last
        if other.null & EMPTY_LAST:
            ended = one.ended + ended
        return Edges(one.null & other.null, first, begun, last, ended)

    def standing_for(self, sign):
        """The mask of the positions that take a sign."""
        mask = 0
        for at, signs in enumerate(self.sets):
            if sign in signs:
                mask |= 1 << at
        self.masks[sign] = mask
        return mask

    def after(self, taken):
        """The mask of the positions that come behind those that took a sign."""
        mask = 0
        rest = taken
        while rest:
            low = rest & -rest
            mask |= self.follow[low.bit_length() - 1]
            rest ^= low
        self.behind[taken] = mask
        return mask

    def takes_empty(self, at, length):
        """Whether the empty stretch at an index of a text of a length is taken."""
        bit = EMPTY
        if at == 0:
            bit = EMPTY_FIRST
        if at == length:
            bit = bit << 2
        return self.null & bit > 0

    def takes_last(self, taken, at, length):
        """Whether a stretch is taken that ends at an index, behind the positions that took its last sign."""
        if at == length:
            return taken & self.ended > 0
        return taken & self.last > 0

    def leading_on(self):
        """The mask of the positions from which some signs lead to the end of a stretch that is taken."""
        if self.leading is None:
            self.leading = self.all_leading_on()
        return self.leading

    def all_leading_on(self):
        """What leading_on tells, worked out for the first time."""
        mask = 0
        wider = self.ended
        while wider != mask:
            mask = wider
            for at, following in enumerate(self.follow):
                if following & mask:
                    wider |= 1 << at
        return mask

    def shortest_way(self, mask):
        """A shortest text that positions, one of a mask first, take up to the end of a stretch."""
        ways = {at: self.sets[at][0] for at in range(len(self.sets)) if mask >> at & 1}
        queue = list(ways)
        done = 0
        while not self.ended >> queue[done] & 1:
            at = queue[done]
            done += 1
            for going in range(len(self.sets)):
                if self.follow[at] >> going & 1 and going not in ways:
                    ways[going] = ways[at] + self.sets[going][0]
                    queue.append(going)
        return ways[queue[done]]


def mask_of(positions):
    """The mask of some positions."""
    mask = 0
    for position in positions:
        mask |= 1 << position
    return mask


def united(parts):
    """What parts of which one is taken begin and end with."""
    whole = Edges(NOWHERE, 0, 0, [], [])
    for part in parts:
        whole.null |= part.null
        whole.first |= part.first
        whole.begun |= part.begun
        whole.last = whole.last + part.last
        whole.ended = whole.ended + part.ended
    return whole
