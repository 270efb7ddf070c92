"""Whether a held state fits a code and a world, condition by condition, as the document tells them."""

import math

import soundness

SIGNS = "\t\n" + "".join(chr(code) for code in range(32, 127) if code != 37)
WORDS = ("divide", "power", "great", "long", "field", "pattern", "format", "deep")


class Unfit(Exception):
    """A condition does not hold."""


def need(worth):
    if not worth:
        raise Unfit()


def integer(value, least=None):
    need(type(value) is int and (least is None or value >= least))


def text(value):
    need(type(value) is str and all(sign in SIGNS for sign in value))


def row(value, many=None):
    need(type(value) is tuple and (many is None or len(value) == many))
    return value


def word(value, words):
    need(type(value) is str and value in words)


def one_value(one):
    need(type(one) is tuple and one and type(one[0]) is str)
    if one[0] == "number":
        _, top, bottom = row(one, 3)
        integer(top), integer(bottom, 1)
        need(math.gcd(top, bottom) == 1 and max(abs(top), bottom) <= 10 ** 60)
    elif one[0] == "unset":
        row(one, 1)
    else:
        need(one[0] in ("text", "seen"))
        text(row(one, 2)[1])
        need(len(one[1]) <= 4000)


def table(value):
    keys = []
    for entry in row(value):
        key, one = row(entry, 2)
        text(key), one_value(one)
        keys.append(key)
    need(keys == sorted(set(keys)))


class State:
    """A value that is looked at as a held state of a code in a world."""

    def __init__(self, code, world, value):
        self.code, self.world = code, world
        self.shapes = soundness.shapes(code)
        self.end, self.place, self.at, self.stack, self.calls, self.room = row(value, 6)
        self.check_room()
        self.check_calls()
        self.check_end()

    def check_room(self):
        phase, exit_code, scalars, arrays, ranges, record, readers, outputs = row(self.room, 8)
        word(phase, ("begin", "main", "end", "over"))
        integer(exit_code)
        need([row(one, 2)[0] for one in row(scalars)] == list(self.code[0]))
        need([row(one, 2)[0] for one in row(arrays)] == list(self.code[1]))
        for name, one in scalars:
            need(type(name) is str)
            one_value(one)
        for name, entries in arrays:
            need(type(name) is str)
            table(entries)
        need(len(row(ranges)) == self.code[2] and all(type(one) is bool for one in ranges))
        line, fields = row(record, 2)
        text(line)
        for field in row(fields):
            text(field)
        need(dict(scalars)["NF"] == ("number", len(fields), 1))
        self.check_readers(*row(readers, 3))
        names = []
        for kind, name, written, is_open in [row(one, 4) for one in row(outputs)]:
            word(kind, ("", ">", "|"))
            text(name), text(written)
            need(type(is_open) is bool)
            need(kind != "" or name == "" and is_open)
            names.append((kind, name))
        need(len(set(names)) == len(names))

    def check_readers(self, index, at, asides):
        integer(index, -1), integer(at, 0)
        need(index >= 0 or at == 0)
        names = []
        for kind, name, taken in [row(one, 3) for one in row(asides)]:
            word(kind, ("<", "|"))
            text(name), integer(taken, 0)
            names.append((kind, name))
            if self.world is not None:
                need(any(one[:2] == (kind, name) and taken <= len(one[2]) for one in self.world[1]))
        need(names == sorted(set(names)))
        if self.world is not None and index >= 0:
            need(index < len(self.world[0]) and at <= len(self.world[0][index][1]))

    def check_calls(self):
        numbers = {body[0]: at for at, body in enumerate(self.code[3])}
        integer(self.place, 0)
        body, ahead = row(self.at, 2)
        integer(body, 0), integer(ahead, 0)
        need(len(row(self.calls)) <= 16)
        caller, parts, before = 0, [], 0
        for name, cells, base, back in [row(one, 4) for one in self.calls]:
            need(type(name) is str and name in numbers and name != "")
            back_body, back_row, back_place = row(back, 3)
            integer(back_body), integer(back_row, 1), integer(back_place, 0), integer(base, 0)
            need(back_body == caller and back_row - 1 in self.shapes[caller])
            called = self.code[3][caller][2][back_row - 1]
            need(called[0] == "call" and called[1] == name)
            parts.append(self.shapes[caller][back_row][:-1])
            need(base - before == len(parts[-1]))
            before, caller = base, numbers[name]
            need(len(row(cells)) == len(self.code[3][caller][1]))
        need(body == caller and ahead in self.shapes[caller])
        parts.append(self.shapes[caller][ahead])
        for depth, call in enumerate(self.calls):
            for kind, cell in zip(self.code[3][numbers[call[0]]][1], call[1]):
                if kind == "value":
                    one_value(cell)
                elif type(cell) is tuple and cell[:1] == ("table",):
                    table(row(cell, 2)[1])
                else:
                    self.reference(cell, depth)
        things = list(row(self.stack))
        need(len(things) == sum(len(part) for part in parts))
        for depth, part in enumerate(parts):
            for kind in part:
                thing = things.pop(0)
                if kind == "value":
                    one_value(thing)
                elif kind == "array":
                    self.reference(thing, depth - 1)
                else:
                    tag, reference, keys = row(thing, 3)
                    need(type(tag) is str and tag == "walk")
                    self.reference(reference, depth - 1)
                    for key in row(keys):
                        text(key)
                    need(list(keys) == sorted(set(keys)))

    def reference(self, value, depth):
        need(type(value) is tuple and value and type(value[0]) is str)
        if value[0] == "global":
            need(type(row(value, 2)[1]) is str and value[1] in self.code[1])
        else:
            tag, level, at = row(value, 3)
            need(tag == "own")
            integer(level, 0), integer(at, 0)
            need(level <= depth and at < len(self.calls[level][1]))
            held = self.calls[level][1][at]
            need(type(held) is tuple and held[:1] == ("table",) and len(held) == 2)

    def check_end(self):
        need((self.room[0] == "over") == (type(self.end) is tuple and self.end[:1] == ("over",)))
        if self.end is None:
            return
        need(type(self.end) is tuple and self.end and type(self.end[0]) is str)
        if self.end[0] == "over":
            integer(row(self.end, 2)[1])
            need(self.end[1] == self.room[1] and self.stack == () and self.calls == ())
            need(self.at == (0, self.code[3][0][2].index(("phase", "end"))))
        else:
            tag, why, place = row(self.end, 3)
            need(tag == "error")
            word(why, WORDS)
            integer(place)
            need(place == self.place)


def fits(code, world, value):
    """Whether a value fits; without a world: some world."""
    try:
        State(code, world, value)
    except Unfit:
        return False
    return True
