"""Following the ways of a body: the shapes of its rows, or a fault."""

from patterndeeds.effects import (
    AFTER, BEHIND, NAMED, PHASE_END, STRAIGHT, VALUES, entries_of, followers, stacks_behind,
)


def quick_shapes(body, heads):
    """The shapes of the rows of a body, and whether a row leads to itself or back to a row that is no tick.

    None if there is another fault than rows without a tick that go round. No ways are kept, unlike in
    Following: it goes through the rows as they stand, once more if one leads back to where nothing led.
    """
    rows = body[2]
    shapes = [None] * len(rows)
    if body[0] == "":
        shapes[rows.index(PHASE_END)] = ()
    while True:
        backs = []
        if not go_through(rows, shapes, heads, backs):
            return None
        if (True, True) not in backs and (False, True) not in backs:
            return shapes, (True, False) in backs


def go_through(rows, shapes, heads, backs):
    """Puts into a list the shapes of rows, as far as rows ahead of them tell; whether no fault was met."""
    stack = ()
    for at, row in enumerate(rows):
        known = shapes[at]
        if known is None:
            if stack is None:
                continue
            shapes[at] = stack
        elif stack is None:
            stack = known
        elif stack != known:
            return False
        word = row[0]
        if word in STRAIGHT:
            many, taken, given = STRAIGHT[word]
            if many > 0 and stack[-many:] != VALUES[many]:
                return False
            if taken > 0:
                stack = stack[:-taken]
            elif given:
                stack = stack + given
        elif word in AFTER:
            find_after = AFTER[word]
            stack = find_after(row, stack, heads)
            if stack is None:
                return False
        else:
            find_behind = BEHIND[word]
            behind = find_behind(row, stack)
            if behind is None:
                return False
            stack, there = behind
            if there is not None and not leads(rows, at, there, shapes, backs):
                return False
    return stack is None


def leads(rows, at, stack, shapes, backs):
    """Lets a row lead to the one that it names, with a stack there; whether no other stack was there.

    If that is not behind the row, backs gets whether it is no tick, and whether nothing led to it before.
    """
    named = rows[at][NAMED[rows[at][0]]]
    known = shapes[named]
    if named <= at:
        backs.append((rows[named][0] != "tick", known is None))
    if known is None:
        shapes[named] = stack
        return True
    return known == stack


class Following:
    """The ways of a body, followed until each row was met once or a second time with another stack.

    shapes has the stack of each row that is reached, before the row ahead of it on the first way to it.
    fault is None, or a tuple of its kind and its ways. turning tells whether a row that is reached leads
    to itself or back to a row that is no tick.
    """

    def __init__(self, body, heads):
        self.rows = body[2]
        self.heads = heads
        self.shapes = [None] * len(self.rows)
        self.before = [None] * len(self.rows)
        self.fault = None
        self.turning = False
        self.follow_ways(entries_of(body))
        if self.turning and self.fault is None:
            ring = Lengths(self.rows, self.shapes).ring
            if ring is not None:
                self.fault = ("tickless", [self.way_to(ring[0]) + ring[1:]])

    def follow_ways(self, entries):
        """Follows the ways from the entries on, the rows in the sequence in which they are met."""
        for entry in entries:
            self.shapes[entry] = ()
        met = list(entries)
        done = 0
        while done < len(met) and self.fault is None:
            behind = self.rows_behind(met[done])
            met.extend(behind)
            done += 1

    def rows_behind(self, at):
        """The rows that are met for the first time behind a row."""
        behind = stacks_behind(self.rows, at, self.shapes[at], self.heads)
        if behind is None:
            self.fault = ("lacks", [self.way_to(at)])
            return []
        found = []
        for following, stack in behind:
            if following == len(self.rows):
                self.fault = ("falls", [self.way_to(at) + [following]])
                return []
            if self.shapes[following] is None:
                self.shapes[following] = stack
                self.before[following] = at
                found.append(following)
            elif self.shapes[following] != stack:
                self.fault = ("unlike", [self.way_to(following), self.way_to(at) + [following]])
                return []
            if following <= at and self.rows[following][0] != "tick":
                self.turning = True
        return found

    def way_to(self, at):
        """The first way to a row."""
        way = []
        while at is not None:
            way.append(at)
            at = self.before[at]
        return way[::-1]


class Lengths:
    """For each row that is reached the greatest number of rows in a list that begins with it.

    Each next one is a follower and no tick. ring is None, or such rows that lead back to the first of
    them, which ends it, too; then not all lengths are found.
    """

    def __init__(self, rows, shapes):
        self.rows = rows
        self.lengths = [None] * len(rows)
        self.ring = None
        for start, shape in enumerate(shapes):
            if shape is not None and self.lengths[start] is None and self.ring is None:
                self.measure_from(start)

    def without_tick(self, at):
        """The followers of a row that are no ticks."""
        return [one for one, _ in followers(self.rows, at) if self.rows[one][0] != "tick"]

    def measure_from(self, start):
        """Works out the lengths of a row and of those behind it, those furthest behind first."""
        path = [start]
        behind = [self.without_tick(start)]
        waiting = [list(behind[0])]
        standing = {start: True}
        while path:
            at = path[-1]
            if waiting[-1]:
                following = waiting[-1].pop()
                if following in standing:
                    self.ring = path[path.index(following):] + [following]
                    return
                if self.lengths[following] is None:
                    path.append(following)
                    behind.append(self.without_tick(following))
                    waiting.append(list(behind[-1]))
                    standing[following] = True
            else:
                self.lengths[at] = 1 + max([self.lengths[one] for one in behind.pop()] + [0])
                del standing[at]
                path.pop()
                waiting.pop()
