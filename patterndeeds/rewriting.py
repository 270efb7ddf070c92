"""Rewriting codes: rows are left out or exchanged, and those that are named move along."""

from patterndeeds.effects import NAMED, entries_of, followers, named_row, with_named


def rewritten(code, rewrite):
    """The code with the rows that a function makes of each body."""
    bodies = [body[:2] + (tuple(rewrite(body)),) for body in code[3]]
    return code[:3] + (tuple(bodies),)


def reached_rows(body):
    """The rows of a body of a sound code, without those that are not reached."""
    rows = body[2]
    waiting = entries_of(body)
    reached = {at: True for at in waiting}
    while waiting:
        for at, _ in followers(rows, waiting.pop()):
            if at not in reached:
                reached[at] = True
                waiting.append(at)
    if len(reached) == len(rows):
        return rows
    return without_gaps([row if at in reached else None for at, row in enumerate(rows)])


def without_gaps(rows):
    """The instructions of some rows without those that are None; who named one of these names the next one."""
    if None not in rows:
        return tuple(rows)
    moved = []
    number = 0
    for row in rows:
        moved.append(number)
        if row is not None:
            number += 1
    left = [row for row in rows if row is not None]
    return tuple([with_named(row, moved[named_row(row)]) if row[0] in NAMED else row for row in left])


def landed_rows(body):
    """For each row of a body, all of whose rows are reached, whether it is an entry or a row names it."""
    landed = [False] * len(body[2])
    for at in entries_of(body):
        landed[at] = True
    for row in body[2]:
        if row[0] in NAMED:
            landed[named_row(row)] = True
    return landed


class Peephole:
    """Goes over the rows of a body, all reached, and exchanges straight ones.

    left has the indexes of the rows behind which the next one comes, as far as they were not left out;
    landed tells for each row whether it is named or an entry, carried whether one was left out behind
    all of these that is.
    """

    def __init__(self, body):
        self.rows = list(body[2])
        self.landed = landed_rows(body)
        self.left = []
        self.carried = False
        self.changed = False

    def straight(self, many):
        """The instructions of the last rows, if there are so many and they are straight; else None."""
        if len(self.left) < many:
            return None
        last = self.left[len(self.left) - many:]
        if [at for at in last[1:] if self.landed[at]]:
            return None
        return tuple([self.rows[at] for at in last])

    def exchange(self, many, row):
        """Puts an instruction, or nothing for None, for the last rows."""
        for at in self.left[len(self.left) - many:]:
            self.rows[at] = None
        first = self.left[len(self.left) - many]
        del self.left[len(self.left) - many:]
        self.changed = True
        if row is None:
            self.carried = self.carried or self.landed[first]
        else:
            self.rows[first] = row
            self.left.append(first)

    def go_over(self, rules):
        """Goes over all rows, and lets the rules exchange them; the rows that are left.

        A rule is a tuple of a number of rows, of the words of the last one of them, and of a function that
        is asked with so many instructions; it returns None, or a tuple of the instruction that stands for
        them, or of None for no instruction.
        """
        for at in range(len(self.rows)):
            if self.carried:
                self.landed[at] = True
                self.carried = False
            self.left.append(at)
            while self.left and self.applies(rules):
                pass
        return without_gaps(self.rows)

    def applies(self, rules):
        """Whether a rule exchanged the last rows."""
        word = self.rows[self.left[-1]][0]
        for many, words, rule in rules:
            if word in words:
                found = self.straight(many)
                if found is not None:
                    made = rule(found)
                    if made is not None:
                        self.exchange(many, made[0])
                        return True
        return False


def rewritten_rows(body, rules):
    """The rows of a body of a sound code in which rules found all that they exchange, and nothing is unreached."""
    rows = reached_rows(body)
    while True:
        peephole = Peephole(body[:2] + (rows,))
        made = peephole.go_over(rules)
        if not peephole.changed:
            return rows
        rows = reached_rows(body[:2] + (made,))
