"""Following the ways of a body: the shapes of its rows, or a fault."""

from patterndeeds.effects import entries_of, followers, stacks_behind


class Following:
    """The ways of a body, followed until each row was met once or a second time with another stack.

    shapes has the stack of each row that is reached, before the row ahead of it on the first way to it.
    fault is None, or a tuple of its kind and its ways. turning tells whether a row that is reached leads
    to itself or back to a row that is no tick.
    """

    def __init__(self, body, heads):
        self.rows = body[2]
        self.heads = heads
        self.shapes = [None] * len(self.rows)
        self.before = [None] * len(self.rows)
        self.fault = None
        self.turning = False
        self.follow_ways(entries_of(body))
        if self.turning and self.fault is None:
            self.lengths()

    def follow_ways(self, entries):
        """Follows the ways from the entries on."""
        for entry in entries:
            self.shapes[entry] = ()
        waiting = entries
        while waiting and self.fault is None:
            behind = []
            for at in waiting:
                behind.extend(self.rows_behind(at))
                if self.fault is not None:
                    return
            waiting = behind

    def rows_behind(self, at):
        """The rows that are met for the first time behind a row."""
        behind = stacks_behind(self.rows, at, self.shapes[at], self.heads)
        if behind is None:
            self.fault = ("lacks", [self.way_to(at)])
            return []
        found = []
        for following, stack in behind:
            if following == len(self.rows):
                self.fault = ("falls", [self.way_to(at) + [following]])
                return []
            if self.shapes[following] is None:
                self.shapes[following] = stack
                self.before[following] = at
                found.append(following)
            elif self.shapes[following] != stack:
                self.fault = ("unlike", [self.way_to(following), self.way_to(at) + [following]])
                return []
            if following <= at and self.rows[following][0] != "tick":
                self.turning = True
        return found

    def way_to(self, at):
        """The first way to a row."""
        way = []
        while at is not None:
            way.append(at)
            at = self.before[at]
        return way[::-1]

    def without_tick(self, at):
        """The followers of a row that are no ticks."""
        return [one for one, _ in followers(self.rows, at) if self.rows[one][0] != "tick"]

    def lengths(self):
        """For each row that is reached the greatest number of rows in a list that begins with it.

        Each next one is a follower and no tick. A ring of such rows is a fault.
        """
        found = [None] * len(self.rows)
        for start, shape in enumerate(self.shapes):
            if shape is not None and found[start] is None and self.fault is None:
                self.measure_from(start, found)
        return found

    def measure_from(self, start, found):
        """Works out the lengths of a row and of those behind it, those furthest behind first."""
        path = [start]
        waiting = [self.without_tick(start)]
        standing = {start: True}
        while path:
            at = path[-1]
            if waiting[-1]:
                following = waiting[-1].pop()
                if following in standing:
                    ring = path[path.index(following):] + [following]
                    self.fault = ("tickless", [self.way_to(following) + ring[1:]])
                    return
                if found[following] is None:
                    path.append(following)
                    waiting.append(self.without_tick(following))
                    standing[following] = True
            else:
                found[at] = 1 + max([found[one] for one in self.without_tick(at)] + [0])
                del standing[at]
                path.pop()
                waiting.pop()
