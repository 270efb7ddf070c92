"""A small machine that does the instructions of a code by the table of the document."""

import slowpatterns
import slowvalues
from slowroom import Room, Waits
from slowvalues import Failed, text, true

ZERO, ONE = ("number", 0, 1), ("number", 1, 1)


def truth(worth):
    return ONE if worth else ZERO


class Machine:
    """A run of a code in a world. calls has for each open call the base of its stack and where it goes back."""

    def __init__(self, code, world):
        self.code = code
        self.room = Room(code[0], code[1], code[2], world)
        self.stack, self.calls = [], []
        self.body, self.row = 0, 0
        self.end = None
        self.ticks = []

    def outcome(self, count):
        while self.end is None:
            row = self.code[3][self.body][2][self.row]
            if row[0] == "tick":
                if len(self.ticks) == count:
                    self.end = ("tick", row[1])
                else:
                    self.ticks.append(row[1])
                    self.room.place = row[1]
                    self.row += 1
                continue
            kept = self.room.snapshot(), list(self.stack), list(self.calls), self.body, self.row
            try:
                self.row += 1
                self.step(row)
            except (Failed, Waits) as stopped:
                kept_room, self.stack, self.calls, self.body, self.row = kept
                assert repr(self.room.snapshot()) == repr(kept_room), "what failed changed something"
                self.end = ("more", self.room.place)
                if isinstance(stopped, Failed):
                    self.end = ("error", stopped.word, self.room.place)
        return (len(self.ticks), self.end, self.room.told(), self.room.events), self.ticks

    def step(self, row):
        found = getattr(self, "do_" + row[0])(*row[1:])
        if found is not None:
            self.stack.append(found)

    def pop(self, many):
        things = self.stack[len(self.stack) - many:]
        assert len(things) == many
        del self.stack[len(self.stack) - many:]
        return things

    def cells(self):
        return self.room.frames[-1][1]

    def reference(self, where):
        if where[0] == "global":
            return where
        cell = self.cells()[where[1]]
        return ("own", len(self.calls) - 1, where[1]) if isinstance(cell, dict) else cell

    def table(self, where):
        return self.room.table(self.reference(where))

    def do_constant(self, value):
        return value

    def do_name(self, name):
        return self.room.scalars[name]

    def do_local(self, at):
        return self.cells()[at]

    def do_range(self, number):
        return truth(self.room.ranges[number])

    def do_field(self):
        return self.room.field(self.pop(1)[0])

    def do_element(self, where):
        return self.room.element(self.table(where), text(self.pop(1)[0]))

    def do_is_in(self, where):
        return truth(text(self.pop(1)[0]) in self.table(where))

    def do_minus(self):
        return slowvalues.value(-slowvalues.number(self.pop(1)[0]))

    def do_plus(self):
        return slowvalues.value(slowvalues.number(self.pop(1)[0]))

    def do_not(self):
        return truth(not true(self.pop(1)[0]))

    def do_close(self):
        return ("number", self.room.close(text(self.pop(1)[0])), 1)

    def do_key(self, many):
        return ("text", self.room.key(self.pop(many)))

    def do_size(self, where):
        return ("number", len(self.table(where)), 1)

    def do_array(self, where):
        return self.reference(where)

    def do_set_name(self, name):
        one = self.pop(1)[0]
        self.room.set_name(name, one)
        return one

    def do_set_local(self, at):
        self.cells()[at] = self.stack[-1]

    def do_set_field(self):
        one, index = self.pop(2)
        self.room.set_field(index, one)
        return one

    def do_set_element(self, where):
        one, key = self.pop(2)
        self.table(where)[text(key)] = one
        return one

    def do_drop(self):
        self.pop(1)

    def do_copy(self):
        return self.stack[-1]

    def do_turn(self, many):
        things = self.pop(many)
        self.stack.extend(things[1:] + things[:1])

    def do_op(self, operator):
        return slowvalues.operated(operator, *self.pop(2))

    def do_compare(self, operator):
        return self.ordered(operator, slowvalues.compared(*self.pop(2)))

    def do_compare_as(self, how, operator):
        one, other = [slowvalues.number(one) if how == "number" else text(one) for one in self.pop(2)]
        return self.ordered(operator, (one > other) - (one < other))

    def ordered(self, operator, order):
        return truth(eval("order %s 0" % operator, {"order": order}))

    def do_join(self):
        line = "".join(text(one) for one in self.pop(2))
        if len(line) > 4000:
            raise Failed("long")
        return ("text", line)

    def do_match(self):
        line, form = [text(one) for one in self.pop(2)]
        return truth(slowpatterns.holds(slowvalues.pattern(form), line))

    def do_built(self, word, many):
        values = self.pop(many)
        if word == "match":
            return self.room.match(text(values[0]), text(values[1]))
        return slowvalues.built(word, values)

    def do_split(self, where, many):
        values = self.pop(many)
        form = text(values[1]) if many == 2 else self.room.special("FS")
        return self.room.split(text(values[0]), self.table(where), form)

    def do_substitute(self, every):
        old, form, new = [text(one) for one in self.pop(3)]
        made, many = slowvalues.replaced(slowvalues.pattern(form), new, old, every)
        self.stack.append(("text", made))
        return ("number", many, 1)

    def do_print(self, many, kind):
        name = "" if kind == "" else text(self.pop(1)[0])
        self.room.write(kind, name, self.room.print_line(self.pop(many)))

    def do_printf(self, many, kind):
        name = "" if kind == "" else text(self.pop(1)[0])
        values = self.pop(many)
        self.room.write(kind, name, slowvalues.formatted(text(values[0]), values[1:]))

    def do_read(self, kind, into):
        name = "" if kind == "main" else text(self.pop(1)[0])
        many, line = self.room.read(kind, name, into == "record")
        if into == "value":
            self.stack.append(("unset",) if line is None else ("seen", line))
        return ("number", many, 1)

    def do_set_range(self, number, worth):
        self.room.ranges[number] = worth

    def do_clear(self, where):
        self.table(where).clear()

    def do_delete(self, where):
        self.table(where).pop(text(self.pop(1)[0]), None)

    def do_jump(self, row):
        self.row = row

    def do_jump_if(self, worth, row):
        if true(self.pop(1)[0]) == worth:
            self.row = row

    def do_walk(self, where):
        return ("walk", self.reference(where), sorted(self.table(where)))

    def do_next_key(self, row):
        _, reference, keys = self.pop(1)[0]
        keys = list(keys)
        while keys and keys[0] not in self.room.table(reference):
            keys.pop(0)
        if not keys:
            self.row = row
            return None
        self.stack.append(("walk", reference, keys[1:]))
        return ("text", keys[0])

    def do_call(self, name, many):
        if len(self.calls) == 16:
            raise Failed("deep")
        numbers = [body[0] for body in self.code[3]]
        kinds = self.code[3][numbers.index(name)][1]
        cells = self.pop(many)
        cells += [{} if kind == "array" else ("unset",) for kind in kinds[many:]]
        self.calls.append((len(self.stack), (self.body, self.row, self.room.place)))
        self.room.frames.append((name, cells))
        self.body, self.row = numbers.index(name), 0

    def do_return(self):
        one = self.pop(1)[0]
        base, (self.body, self.row, self.room.place) = self.calls.pop()
        self.room.frames.pop()
        del self.stack[base:]
        return one

    def end_all(self):
        if self.calls:
            self.room.place = self.calls[0][1][2]
        self.stack, self.calls, self.room.frames = [], [], []
        self.body, self.row = 0, self.code[3][0][2].index(("phase", "end"))

    def do_exit(self, coded):
        if coded:
            self.room.code = slowvalues.value(slowvalues.cut(slowvalues.number(self.pop(1)[0])))[1]
        if self.room.phase == "end":
            self.do_halt()
        else:
            self.end_all()

    def do_halt(self):
        self.end_all()
        self.room.phase = "over"
        self.end = ("over", self.room.code)

    def do_record(self, row):
        if self.room.read_main(True) is None:
            self.row = row

    def do_next(self, row):
        self.stack = []
        self.row = row

    def do_phase(self, word):
        self.room.phase = word


def outcome(code, world, count):
    return Machine(code, world).outcome(count)
