"""The state of a run and the deeds that change it, by the words of the document."""

import copy

import slowpatterns
import slowrecords
import slowvalues
from slowvalues import Failed, number, text

SPECIAL = {"FILENAME": ("text", ""), "FNR": ("number", 0, 1), "FS": ("text", " "), "NF": ("number", 0, 1),
           "NR": ("number", 0, 1), "OFS": ("text", " "), "ORS": ("text", "\n"), "RLENGTH": ("number", -1, 1),
           "RS": ("text", "\n"), "RSTART": ("number", 0, 1), "SUBSEP": ("text", "\t")}


class Waits(Exception):
    """More of an input has to be told."""


class Over(Exception):
    """The run is over."""


def whole_number(one):
    return slowvalues.value(number(one))


def plus_one(one):
    return slowvalues.value(number(one) + 1)


def separator(form, single):
    """The separator that a text tells; single are those of the blank and of the empty text."""
    if form in single:
        return (single[form],)
    if len(form) == 1:
        return ("sign", form)
    return ("pattern", slowvalues.pattern(form))


class Room:
    """A room with the calls that are open, and what happened."""

    def __init__(self, scalars, arrays, ranges, world):
        self.world = world
        self.phase, self.code = "begin", 0
        self.scalars = {name: SPECIAL.get(name, ("unset",)) for name in scalars}
        self.arrays = {name: {} for name in arrays}
        self.ranges = [False] * ranges
        self.record = ("", ())
        self.index, self.at, self.asides = -1, 0, {}
        self.outputs = []
        self.frames = []
        self.place = 0
        self.events = []

    def special(self, name):
        return text(self.scalars[name])

    def table(self, reference):
        if reference[0] == "global":
            return self.arrays[reference[1]]
        return self.frames[reference[1]][1][reference[2]]

    def told(self):
        def table(entries):
            return tuple(sorted(entries.items()))

        room = (self.phase, self.code, tuple(sorted(self.scalars.items())),
                tuple((name, table(self.arrays[name])) for name in sorted(self.arrays)), tuple(self.ranges),
                self.record, (self.index, self.at, tuple(sorted(key + (at,) for key, at in self.asides.items()))),
                tuple(tuple(row) for row in self.outputs))
        frames = tuple((name, tuple(("table", table(cell)) if isinstance(cell, dict) else cell for cell in cells))
                       for name, cells in self.frames)
        return (self.place, room, frames)

    def separator_of_records(self):
        return separator(self.special("RS"), {"": "paragraphs"})

    def parse(self, line):
        fields = slowrecords.fields(line, separator(self.special("FS"), {" ": "blanks", "": "each"}),
                                    self.special("RS") == "")
        return (line, tuple(fields))

    def field_number(self, one):
        whole = slowvalues.cut(number(one))
        if not 0 <= whole <= 4001:
            raise Failed("field")
        return whole

    def field(self, one):
        index = self.field_number(one)
        if index == 0:
            return ("seen", self.record[0])
        return ("seen", self.record[1][index - 1]) if index <= len(self.record[1]) else ("unset",)

    def joined(self, fields, joint):
        line = joint.join(fields)
        if len(line) > 4000:
            raise Failed("long")
        return line

    def take_over(self, record):
        self.record = record
        self.scalars["NF"] = ("number", len(record[1]), 1)

    def set_name(self, name, one):
        if name != "NF":
            self.scalars[name] = one
            return
        many = self.field_number(one)
        fields = [self.record[1][at] if at < len(self.record[1]) else "" for at in range(many)]
        self.take_over((self.joined(fields, self.special("OFS")), tuple(fields)))

    def set_field(self, index, one):
        at = self.field_number(index)
        if at == 0:
            self.take_over(self.parse(text(one)))
            return
        fields = list(self.record[1]) + [""] * max(0, at - len(self.record[1]))
        fields[at - 1] = text(one)
        self.take_over((self.joined(fields, self.special("OFS")), tuple(fields)))

    def key(self, values):
        return self.joined([text(one) for one in values], self.special("SUBSEP"))

    def element(self, entries, key):
        if key not in entries:
            entries[key] = ("unset",)
        return entries[key]

    def write(self, kind, name, line):
        kept = ">" if kind == ">>" else kind
        rows = [row for row in self.outputs if row[:2] == [kept, name]]
        if not rows:
            rows = [[kept, name, "", True]]
            self.outputs.append(rows[0])
        elif not rows[0][3]:
            rows[0][2] = rows[0][2] if kind == ">>" else ""
            rows[0][3] = True
        rows[0][2] += line
        self.events.append(("write", kind, name, line))

    def next_taking(self, line, at, whole, kind):
        """A record and where it ends; None if there is none; Waits if that is not settled."""
        rest = line[at:]
        if not whole and not is_settled(rest, kind):
            raise Waits()
        taking = slowrecords.taking(rest, kind)
        if taking is not None and len(taking[0]) > 4000:
            raise Failed("long")
        return None if taking is None else (taking[0], at + taking[1])

    def read_main(self, into_record):
        """The text of the next main record, None if there is none."""
        kind = self.separator_of_records()
        index, at, found = self.index, self.at, None
        mains = self.world[0]
        while True:
            if index >= 0:
                found = self.next_taking(mains[index][1], at, mains[index][2], kind)
                if found is not None:
                    break
            if index + 1 >= len(mains):
                break
            index, at = index + 1, 0
        record = self.parse(found[0]) if found and into_record else self.record
        fnr = ("number", 0, 1) if index != self.index else self.scalars["FNR"]
        if found:
            fnr, total = plus_one(fnr), plus_one(self.scalars["NR"])
            self.scalars["NR"] = total
            at = found[1]
        if index != self.index:
            self.scalars["FILENAME"] = ("text", mains[index][0])
        self.scalars["FNR"] = fnr
        self.index, self.at = index, at
        if found is None:
            return None
        if into_record:
            self.take_over(record)
        self.events.append(("read", "main", mains[index][0], found[0]))
        return found[0]

    def read_aside(self, kind, name, into_record):
        """1 and the text of the next record, 0 or -1 and None."""
        rows = [row for row in self.world[1] if row[:2] == (kind, name)]
        if not rows:
            return -1, None
        by = self.separator_of_records()
        found = self.next_taking(rows[0][2], self.asides.get((kind, name), 0), rows[0][3], by)
        if found is None:
            self.asides.setdefault((kind, name), 0)
            return 0, None
        record = self.parse(found[0]) if into_record else self.record
        if kind == "|":
            self.scalars["NR"] = plus_one(self.scalars["NR"])
        self.asides[(kind, name)] = found[1]
        if into_record:
            self.take_over(record)
        self.events.append(("read", kind, name, found[0]))
        return 1, found[0]

    def read(self, kind, name, into_record):
        if kind == "main":
            line = self.read_main(into_record)
            return (0 if line is None else 1), line
        return self.read_aside(kind, name, into_record)

    def close(self, name):
        closed = [key for key in self.asides if key[1] == name]
        for key in closed:
            del self.asides[key]
        for row in self.outputs:
            if row[1] == name and row[0] != "" and row[3]:
                row[3] = False
                closed.append(row)
        self.events.append(("close", name))
        return 0 if closed else -1

    def print_line(self, values):
        line = self.special("OFS").join(text(one) for one in values) + self.special("ORS")
        if len(line) > 4000:
            raise Failed("long")
        return line

    def match(self, line, form):
        """The value of the built-in match."""
        found = slowpatterns.found(slowvalues.pattern(form), line)
        start, length = (found[0] + 1, found[1] - found[0]) if found else (0, -1)
        self.scalars["RSTART"], self.scalars["RLENGTH"] = ("number", start, 1), ("number", length, 1)
        return ("number", start, 1)

    def split(self, line, entries, form):
        fields = slowrecords.fields(line, separator(form, {" ": "blanks", "": "each"}))
        entries.clear()
        entries.update((str(at), ("seen", field)) for at, field in enumerate(fields, 1))
        return ("number", len(fields), 1)

    def snapshot(self):
        """What may be put back by restore."""
        return copy.deepcopy({name: worth for name, worth in vars(self).items() if name != "world"})

    def restore(self, kept):
        vars(self).update(kept)


def is_settled(rest, kind):
    """Whether a rest is settled, tried with some texts behind it."""
    if kind[0] == "sign":
        return kind[1] in rest
    if kind[0] == "paragraphs":
        return "\n\n" in rest.lstrip("\n")
    first = slowrecords.taking(rest, kind)
    return first is not None and all(slowrecords.taking(rest + more, kind) == first for more in MORE)


SIGNS = "abx,;1 \n"
MORE = [one + other + third for one in SIGNS for other in SIGNS for third in [""] + list(SIGNS)] + list(SIGNS)
