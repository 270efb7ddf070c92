"""Strips: how the instructions of a body that go alike become one, and how they are laid out."""

from patterndeeds.effects import ENDING, NAMED, entries_of, named_row, with_named
from patterndeeds.folding import goal_of


def plain_row(row):
    """An instruction without the row that it names."""
    if row[0] in NAMED:
        return with_named(row, 0)
    return row


def steps_from(rows, at):
    """What comes next behind an instruction that is no jump, and at the row that it names; None for neither."""
    row = rows[at]
    behind = None
    named = None
    if row[0] in NAMED:
        named = goal_of(rows, named_row(row))
    if row[0] not in ENDING and row[0] != "next":
        behind = goal_of(rows, at + 1)
    return behind, named


def classes_of(rows, shapes):
    """For each reached row that is no jump a number, the same for those that go alike and have one shape."""
    places = [at for at, shape in enumerate(shapes) if shape is not None and rows[at][0] != "jump"]
    steps = {at: steps_from(rows, at) for at in places}
    classes = numbered({at: (plain_row(rows[at]), shapes[at]) for at in places})
    many = 0
    while many < len(set(list(classes.values()))):
        many = len(set(list(classes.values())))
        keys = {}
        for at in places:
            behind, named = steps[at]
            keys[at] = (classes[at], classes.get(behind), classes.get(named))
        classes = numbered(keys)
    return classes


def numbered(keys):
    """A number for each row, the same for those with equal keys."""
    numbers = {}
    for key in keys.values():
        numbers.setdefault(key, len(numbers))
    return {at: numbers[keys[at]] for at in keys}


class Layout:
    """The instructions of a body laid out in strips.

    classes has the numbers of the rows, members a row for each number. laid has the new rows by these
    numbers, left the new instructions, each with the number of what it names, or None.
    """

    def __init__(self, rows, classes):
        self.rows = rows
        self.classes = classes
        self.members = {number: at for at, number in classes.items()}
        self.laid = {}
        self.left = []

    def number_at(self, at):
        """The number of what comes next at a row."""
        return self.classes[goal_of(self.rows, at)]

    def lay_strip(self, number):
        """Lays the strip that begins with an instruction that is not laid."""
        while number not in self.laid:
            at = self.members[number]
            row = self.rows[at]
            self.laid[number] = len(self.left)
            behind, named = steps_from(self.rows, at)
            self.left.append((row, self.classes.get(named)))
            if behind is None:
                return
            number = self.classes[behind]
        self.left.append((("jump", 0), number))

    def lay_named(self):
        """Lays the strips of what is named and not laid."""
        done = 0
        while done < len(self.left):
            named = self.left[done][1]
            if named is not None and named not in self.laid:
                self.lay_strip(named)
            done += 1

    def new_rows(self):
        """The new instructions, with the new rows that they name."""
        return tuple([row if named is None else with_named(row, self.laid[named]) for row, named in self.left])


def laid_out(body, shapes):
    """The rows of a body of a sound code, of those that go alike and have one shape one alone."""
    layout = Layout(body[2], classes_of(body[2], shapes))
    for entry in entries_of(body):
        number = layout.number_at(entry)
        if number not in layout.laid:
            layout.lay_strip(number)
    layout.lay_named()
    return layout.new_rows()
