"""Searching texts by automata: what is taken, the longest stretches, and the first ones."""


def is_taken(automaton, text, start, end):
    """Whether a stretch of a text is taken."""
    if start == end:
        return automaton.takes_empty(start, len(text))
    following = automaton.first
    if start == 0:
        following = automaton.begun
    taken = 0
    for sign in text[start:end]:
        mask = automaton.masks.get(sign)
        if mask is None:
            mask = automaton.standing_for(sign)
        taken = following & mask
        if taken == 0:
            return False
        following = automaton.behind.get(taken)
        if following is None:
            following = automaton.after(taken)
    return automaton.takes_last(taken, end, len(text))


def longest_from(automaton, text, start):
    """The greatest end of the stretches that start at an index; None if there is none."""
    longest = None
    if automaton.takes_empty(start, len(text)):
        longest = start
    following = automaton.first
    if start == 0:
        following = automaton.begun
    for at in range(start, len(text)):
        mask = automaton.masks.get(text[at])
        if mask is None:
            mask = automaton.standing_for(text[at])
        taken = following & mask
        if taken == 0:
            return longest
        if automaton.takes_last(taken, at + 1, len(text)):
            longest = at + 1
        following = automaton.behind.get(taken)
        if following is None:
            following = automaton.after(taken)
    return longest


def is_held(automaton, text):
    """Whether some stretch of a text is taken."""
    # Where an empty stretch inside is taken, those at both ends are taken, too.
    if automaton.takes_empty(0, len(text)) or automaton.takes_empty(len(text), len(text)):
        return True
    following = automaton.begun
    last = automaton.last
    for at, sign in enumerate(text):
        mask = automaton.masks.get(sign)
        if mask is None:
            mask = automaton.standing_for(sign)
        taken = following & mask
        if at + 1 == len(text):
            last = automaton.ended
        if taken & last:
            return True
        following = automaton.behind.get(taken)
        if following is None:
            following = automaton.after(taken)
        following |= automaton.first
    return False


class Search:
    """The first stretch that is not empty, from an index of a text on, and of those the longest one.

    If goes_on is True the text may go on: its end is no end. threads has tuples (start, mask) of the
    stretches that were begun and may still be taken, ascending; a position of the mask comes next.
    """

    def __init__(self, automaton, text, begin, goes_on):
        self.automaton = automaton
        self.stretch = None
        self.threads = []
        self.look(text, begin, goes_on)

    def look(self, text, begin, goes_on):
        """Goes through a text from an index on."""
        automaton = self.automaton
        last = automaton.last
        first = automaton.first
        if begin == 0:
            first = automaton.begun
        for at in range(begin, len(text)):
            mask = automaton.masks.get(text[at])
            if mask is None:
                mask = automaton.standing_for(text[at])
            if at + 1 == len(text) and not goes_on:
                last = automaton.ended
            if self.stretch is None and first & mask:
                self.threads.append((at, first))
            if self.threads:
                self.take(mask, last, at + 1)
            elif self.stretch is not None:
                return
            first = automaton.first

    def take(self, mask, last, end):
        """Goes on with the sign that the positions of a mask take and that ends at an index."""
        left = []
        for start, following in self.threads:
            taken = following & mask
            if taken:
                # A position that goes on from here leads a later start to nothing but the same end.
                mask ^= taken
                behind = self.automaton.behind.get(taken)
                if behind is None:
                    behind = self.automaton.after(taken)
                left.append((start, behind))
                if taken & last:
                    self.stretch = (start, end)
                    break
        self.threads = left

    def waiting(self):
        """The mask of the positions of which one has to come next so that a thread is taken yet."""
        mask = 0
        for _, following in self.threads:
            mask |= following
        return mask & self.automaton.leading_on()


def cuts_in(automaton, text):
    """The cuts of a text: the stretches that are not empty, told from the left."""
    rows = []
    stretch = Search(automaton, text, 0, False).stretch
    while stretch is not None:
        rows.append(stretch)
        stretch = Search(automaton, text, stretch[1], False).stretch
    return rows


def stretches_in(automaton, text):
    """The stretches of a text, told from the left, the empty ones included."""
    rows = []
    first = 0
    for start, end in cuts_in(automaton, text):
        rows.extend(empty_ones(automaton, text, first, start))
        rows.append((start, end))
        first = end + 1
    return rows + empty_ones(automaton, text, first, len(text) + 1)


def empty_ones(automaton, text, first, end):
    """The empty stretches that are taken at the indexes from the first one to ahead of the end."""
    if automaton.null == 0:
        return []
    return [(at, at) for at in range(first, end) if automaton.takes_empty(at, len(text))]


def found_in(automaton, text, begin):
    """The stretch that is found from an index on; None if there is none."""
    if automaton.takes_empty(begin, len(text)):
        return begin, longest_from(automaton, text, begin)
    stretch = Search(automaton, text, begin, False).stretch
    # An empty stretch inside would be taken at the first index, too.
    if stretch is None and automaton.takes_empty(len(text), len(text)):
        return len(text), len(text)
    return stretch
