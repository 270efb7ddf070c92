"""Keeping: whether lists of texts, joined and parted again, come back."""

from patterndeeds.automata import Automaton
from patterndeeds.blocks import blocks_of, explored
from patterndeeds.values import BLANKS
from patterndeeds.ways import StretchWay


def unkept_list(pattern, joint, separator):
    """None if each list of texts that a pattern takes whole is kept; else a list that is not."""
    texts = Texts(pattern, separator)
    if texts.shortest is None:
        return None
    if separator[0] == "pattern":
        return Breach(texts, joint).found()
    bad = bad_text(texts, separator)
    if bad is not None:
        return [bad]
    if not is_good_joint(joint, separator):
        return [texts.shortest, texts.shortest]
    return None


def bad_text(texts, separator):
    """A text that is not the one field that it is parted into; None if there is none."""
    if texts.ends[0]:
        return ""
    if separator[0] == "each":
        return texts.long_one()
    if separator[0] == "blanks":
        return texts.one_with(BLANKS)
    return texts.one_with(separator[1])


def is_good_joint(joint, separator):
    """Whether a joint parts the texts that are put together with it."""
    if separator[0] == "each":
        return joint == ""
    if separator[0] == "blanks":
        return joint != "" and joint.strip(BLANKS) == ""
    return joint == separator[1]


class Texts:
    """The texts that a pattern takes whole, by the states of a table.

    The signs of a block are alike for the pattern and for the separator; masks has for each block the
    positions of the separator that take them. ways has by the states from which some text leads to
    the end a shortest one, prefixes by these states a shortest one that leads there.
    """

    def __init__(self, pattern, separator):
        automata = [Automaton(pattern)]
        if separator[0] == "pattern":
            automata.append(Automaton(separator[1]))
        self.separating = automata[-1]
        blocks = blocks_of(automata)
        self.signs = [signs for signs, _ in blocks]
        self.masks = [masks[-1] for _, masks in blocks]
        self.rows, self.ends = explored(StretchWay(automata[0], True, True), blocks)
        self.ways = self.ways_to_end()
        self.prefixes = self.ways_from_beginning()
        self.shortest = self.ways.get(0)

    def ways_to_end(self):
        """A shortest text to the end by the states from which there is one."""
        before = [[] for _ in self.rows]
        for state, row in enumerate(self.rows):
            for signs, going in zip(self.signs, row):
                before[going].append((signs[0], state))
        queue = [state for state, end in enumerate(self.ends) if end]
        ways = {state: "" for state in queue}
        done = 0
        while done < len(queue):
            going = queue[done]
            done += 1
            for sign, state in before[going]:
                if state not in ways:
                    ways[state] = sign + ways[going]
                    queue.append(state)
        return ways

    def ways_from_beginning(self):
        """A shortest text that leads to each state from which there is a way to the end."""
        queue = [state for state in [0] if state in self.ways]
        prefixes = {state: "" for state in queue}
        done = 0
        while done < len(queue):
            state = queue[done]
            done += 1
            for sign, _, going in self.ways_on(state):
                if going not in prefixes:
                    prefixes[going] = prefixes[state] + sign
                    queue.append(going)
        return prefixes

    def ways_on(self, state):
        """The list of tuples (sign, mask, state) of how a text may go on at a state."""
        found = []
        for signs, mask, going in zip(self.signs, self.masks, self.rows[state]):
            if going in self.ways:
                found.append((signs[0], mask, going))
        return found

    def long_one(self):
        """A text of two signs or more; None if there is none."""
        for sign, _, state in self.ways_on(0):
            for other, _, going in self.ways_on(state):
                return sign + other + self.ways[going]
        return None

    def one_with(self, some):
        """A text with one of some signs; None if there is none."""
        for state in self.prefixes:
            for signs, going in zip(self.signs, self.rows[state]):
                for sign in signs:
                    if sign in some and going in self.ways:
                        return self.prefixes[state] + sign + self.ways[going]
        return None


class Breach:
    """Looks for a list, joined, in which the separator takes a stretch that parts it wrongly.

    The list is kept if the separator takes no stretch that starts in a text, and of those that start
    at a joint just this joint is the longest. A stretch is followed sign by sign: known has, by where
    in the list it has come to and by the position of the separator that took the last sign, the texts
    up to there, the last one perhaps not whole. Where in the list: the state of the text, or, below
    0, how many signs of a joint stand ahead.
    """

    def __init__(self, texts, joint):
        self.texts = texts
        self.joint = joint
        self.separating = texts.separating
        self.known = {}
        self.queue = []
        self.result = None

    def found(self):
        """Such a list; None if there is none."""
        if self.texts.ends[0]:
            return [""]
        taken = self.behind_joint()
        if taken & self.separating.last == 0:
            return [self.texts.shortest, self.texts.shortest]
        # What goes on behind a joint is longer than the joint.
        self.enter(0, taken, (self.texts.shortest, ""))
        self.step_off(0, self.separating.begun, ("",))
        for state in self.texts.prefixes:
            self.step_off(state, self.separating.first, (self.texts.shortest, self.texts.prefixes[state]))
        done = 0
        while done < len(self.queue) and self.result is None:
            where, position = self.queue[done]
            done += 1
            self.go_on(where, position)
        return self.result

    def behind_joint(self):
        """The mask of the positions that take the last sign of a joint, a stretch begun with it."""
        taken = 0
        following = self.separating.first
        for sign in self.joint:
            taken = following & self.separating.standing_for(sign)
            following = self.separating.after(taken)
        return taken

    def step_off(self, state, following, texts):
        """Begins a stretch at a sign of a text."""
        for sign, mask, going in self.texts.ways_on(state):
            self.arrive(going, following & mask, texts[:-1] + (texts[-1] + sign,))

    def go_on(self, where, position):
        """Goes on with a stretch by one sign."""
        texts = self.known[(where, position)]
        following = self.separating.follow[position]
        if where < 0:
            self.go_on_in_joint(-where, following, texts)
        else:
            self.step_off(where, following, texts)
            if self.texts.ends[where]:
                self.go_on_in_joint(0, following, texts)

    def go_on_in_joint(self, many, following, texts):
        """Goes on with a stretch by the sign of a joint behind so many of its signs."""
        taken = following & self.separating.standing_for(self.joint[many])
        if many + 1 < len(self.joint):
            self.arrive(-many - 1, taken, texts)
        else:
            self.arrive(0, taken, texts + ("",))

    def arrive(self, where, taken, texts):
        """Notes that a stretch has come somewhere, and whether it is taken there."""
        if taken & self.separating.last:
            if where < 0:
                self.result = list(texts) + [self.texts.shortest]
            else:
                self.result = list(texts[:-1]) + [texts[-1] + self.texts.ways[where]]
        elif taken & self.separating.ended and where >= 0 and self.texts.ends[where]:
            self.result = list(texts)
        self.enter(where, taken, texts)

    def enter(self, where, taken, texts):
        """Notes the texts up to where a stretch has come."""
        for position in range(len(self.separating.sets)):
            if taken >> position & 1 and (where, position) not in self.known:
                self.known[(where, position)] = texts
                self.queue.append((where, position))
