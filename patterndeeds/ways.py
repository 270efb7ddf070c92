"""Ways to read texts sign by sign by an automaton, each with states that numbers tell."""

from patterndeeds.automata import EMPTY, EMPTY_BOTH, EMPTY_FIRST, EMPTY_LAST

FOUND = -1
AT_FIRST = -2


class StretchWay:
    """Reads the signs of one stretch.

    The stretch starts at the beginning of its text or behind it, and ends at the end of it or ahead.
    A state is the mask of the positions that took the last sign, AT_FIRST ahead of all signs.
    """

    def __init__(self, automaton, at_beginning, at_end):
        self.automaton = automaton
        self.beginning = AT_FIRST
        self.first = automaton.first
        empty = EMPTY
        if at_beginning:
            self.first = automaton.begun
            empty = EMPTY_FIRST
        self.last = automaton.last
        if at_end:
            self.last = automaton.ended
            empty = empty << 2
        self.empty = automaton.null & empty > 0

    def going_on(self, state, mask):
        """The state behind one more sign, which the positions of a mask take."""
        if state == AT_FIRST:
            return self.first & mask
        following = self.automaton.behind.get(state)
        if following is None:
            following = self.automaton.after(state)
        return following & mask

    def accepting(self, state):
        """Whether the stretch that was read is taken."""
        if state == AT_FIRST:
            return self.empty
        return state & self.last > 0


class HoldingWay:
    """Reads a text to tell whether the pattern holds in it.

    A state is the mask of the positions that took the last sign, for any start; AT_FIRST ahead of all
    signs; FOUND if a stretch was taken, whatever follows.
    """

    def __init__(self, automaton):
        self.automaton = automaton
        self.beginning = AT_FIRST

    def going_on(self, state, mask):
        """The state behind one more sign, which the positions of a mask take."""
        automaton = self.automaton
        if state == AT_FIRST:
            if automaton.null & EMPTY_FIRST:
                return FOUND
            return automaton.begun & mask
        if state == FOUND or state & automaton.last:
            return FOUND
        following = automaton.behind.get(state)
        if following is None:
            following = automaton.after(state)
        return (following | automaton.first) & mask

    def accepting(self, state):
        """Whether the pattern holds in the text that was read."""
        if state == FOUND:
            return True
        if state == AT_FIRST:
            return self.automaton.null & EMPTY_BOTH > 0
        return state & self.automaton.ended > 0 or self.automaton.null & EMPTY_LAST > 0
