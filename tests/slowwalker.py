"""Runs by walking over the trees, as the document tells them.

Each evaluation is a generator that yields the place of a tick ahead of it, and None when it waits for
more; so a run can be stopped behind any number of ticks.
"""

import slowpatterns
import slowvalues
from patterndeeds.kinds import slot_kinds
from slowroom import Room, Waits
from slowvalues import Failed, text, true

ZERO, ONE, MINUS = ("number", 0, 1), ("number", 1, 1), ("number", -1, 1)


class Break(Exception):
    pass


class Continue(Exception):
    pass


class Next(Exception):
    pass


class Exit(Exception):
    pass


class Return(Exception):
    pass


class Placed(tuple):
    """A rule or a statement that knows its place, as do those in it."""


BODIES = {"if": (2, 3), "while": (2,), "do": (1,), "for": (1, 3, 4), "walk": (3,), "begin": (1,), "end": (1,),
          "always": (1,), "when": (2,), "range": (3,)}


class Placing:
    """Gives the places, one behind another."""

    def __init__(self):
        self.place = 0

    def tree(self, tree):
        self.place += 1
        place = self.place
        parts = list(tree)
        for at in BODIES.get(tree[0], ()):
            if parts[at] is not None:
                parts[at] = self.body(parts[at])
        made = Placed(parts)
        made.place = place
        return made

    def body(self, body):
        return tuple(self.tree(statement) for statement in body)


def truth(worth):
    return ONE if worth else ZERO


class Walker:
    """A run of a program in a world."""

    def __init__(self, program, world):
        placing = Placing()
        self.rules = placing.body(program[0])
        self.functions = {name: (name, params, placing.body(body)) for name, params, body in program[1]}
        self.kinds = {slot: "array" if kind == "array" else "value" for slot, kind in slot_kinds(program)}
        names = {True: [], False: []}
        for (function, name), kind in self.kinds.items():
            if function == "":
                names[kind == "array"].append(name)
        ranges = sum(rule[0] == "range" for rule in self.rules)
        self.room = Room(names[False], names[True], ranges, world)

    def outcome(self, count):
        """The outcome behind at most so many ticks, and the places of these ticks."""
        ticks, end = [], None
        run = self.run()
        try:
            while end is None:
                place = next(run)
                if place is None:
                    end = ("more", self.room.place)
                elif len(ticks) == count:
                    end = ("tick", place)
                else:
                    ticks.append(place)
                    self.room.place = place
        except StopIteration:
            end = ("over", self.room.code)
        except Failed as failed:
            end = ("error", failed.word, self.room.place)
        return (len(ticks), end, self.room.told(), self.room.events), ticks

    def run(self):
        rules = self.rules
        try:
            for rule in rules:
                if rule[0] == "begin":
                    yield from self.simple_rule(rule)
            if any(rule[0] != "begin" for rule in rules):
                self.room.phase = "main"
                yield from self.main_loop(rules)
        except Exit:
            self.end_calls()
        self.room.phase = "end"
        try:
            for rule in rules:
                if rule[0] == "end":
                    yield from self.simple_rule(rule)
        except Exit:
            self.end_calls()
        self.room.phase = "over"

    def end_calls(self):
        if self.room.frames:
            self.room.place = self.backs[0]
            self.room.frames = []

    backs = ()

    def simple_rule(self, rule):
        yield rule.place
        yield from self.body(rule[1])

    def main_loop(self, rules):
        while True:
            yield 0
            while True:
                try:
                    line = self.room.read_main(True)
                    break
                except Waits:
                    yield None
            if line is None:
                return
            try:
                ranges = 0
                for rule in rules:
                    if rule[0] == "always":
                        yield from self.simple_rule(rule)
                    elif rule[0] == "when":
                        yield rule.place
                        if true((yield from self.value(rule[1]))):
                            yield from self.rule_body(rule[2])
                    elif rule[0] == "range":
                        yield from self.range_rule(rule, ranges)
                        ranges += 1
            except Next:
                pass

    def range_rule(self, rule, number):
        room = self.room
        yield rule.place
        if not room.ranges[number]:
            if not true((yield from self.value(rule[1]))):
                return
            room.ranges[number] = True
        if true((yield from self.value(rule[2]))):
            room.ranges[number] = False
        yield from self.rule_body(rule[3])

    def rule_body(self, body):
        if body is None:
            self.room.write("", "", self.room.print_line([("seen", self.room.record[0])]))
        else:
            yield from self.body(body)

    def body(self, body):
        for statement in body:
            yield from self.statement(statement)

    def statement(self, tree):
        tag, place = tree[0], tree.place
        if tag == "while":
            while True:
                yield place
                if not true((yield from self.value(tree[1]))):
                    return
                if (yield from self.round(tree[2])):
                    return
        elif tag == "do":
            while True:
                yield place
                if (yield from self.round(tree[1])):
                    return
                if not true((yield from self.value(tree[2]))):
                    return
        elif tag == "for":
            yield from self.body(tree[1])
            while True:
                yield place
                if tree[2] is not None and not true((yield from self.value(tree[2]))):
                    return
                if (yield from self.round(tree[4])):
                    return
                yield from self.body(tree[3])
        elif tag == "walk":
            keys = sorted(self.array(tree[2]))
            while True:
                yield place
                while keys and keys[0] not in self.array(tree[2]):
                    keys.pop(0)
                if not keys:
                    return
                self.set_name(tree[1], ("text", keys.pop(0)))
                if (yield from self.round(tree[3])):
                    return
        else:
            yield place
            yield from self.simple(tree)

    def round(self, body):
        """A round of a loop; whether the loop is left."""
        try:
            yield from self.body(body)
        except Continue:
            pass
        except Break:
            return True
        return False

    def simple(self, tree):
        tag = tree[0]
        room = self.room
        if tag == "expr":
            yield from self.value(tree[1])
        elif tag in ("print", "printf"):
            values = yield from self.values(tree[1])
            if tree[1] == ():
                values = [("seen", room.record[0])]
            kind, name = "", ""
            if tree[2] is not None:
                kind, name = tree[2][0], text((yield from self.value(tree[2][1])))
            line = room.print_line(values) if tag == "print" else slowvalues.formatted(text(values[0]), values[1:])
            room.write(kind, name, line)
        elif tag == "if":
            test = yield from self.value(tree[1])
            yield from self.body(tree[2] if true(test) else tree[3])
        elif tag == "delete":
            if tree[2] is None:
                self.array(tree[1]).clear()
            else:
                key = yield from self.key(tree[2])
                self.array(tree[1]).pop(key, None)
        elif tag == "exit":
            if tree[1] is not None:
                one = yield from self.value(tree[1])
                room.code = slowvalues.value(slowvalues.cut(slowvalues.number(one)))[1]
            raise Exit()
        elif tag == "return":
            raise Return(("unset",) if tree[1] is None else (yield from self.value(tree[1])))
        else:
            raise {"break": Break, "continue": Continue, "next": Next}[tag]()

    def cell(self, name):
        """The index of a parameter of this name, None for other names."""
        if not self.room.frames:
            return None
        params = self.functions[self.room.frames[-1][0]][1]
        return params.index(name) if name in params else None

    def reference(self, name):
        at = self.cell(name)
        if at is None:
            return ("global", name)
        cell = self.room.frames[-1][1][at]
        return ("own", len(self.room.frames) - 1, at) if isinstance(cell, dict) else cell

    def array(self, name):
        return self.room.table(self.reference(name))

    def get_name(self, name):
        at = self.cell(name)
        return self.room.scalars[name] if at is None else self.room.frames[-1][1][at]

    def set_name(self, name, one):
        at = self.cell(name)
        if at is None:
            self.room.set_name(name, one)
        else:
            self.room.frames[-1][1][at] = one

    def values(self, trees):
        found = []
        for tree in trees:
            found.append((yield from self.value(tree)))
        return found

    def key(self, trees):
        return self.room.key((yield from self.values(trees)))

    def where(self, target):
        """The key or the index of a target."""
        if target[0] == "element":
            return (yield from self.key(target[2]))
        if target[0] == "field":
            return (yield from self.value(target[1]))
        return None

    def old(self, target, where):
        if target[0] == "element":
            return self.room.element(self.array(target[1]), where)
        if target[0] == "field":
            return self.room.field(where)
        return self.get_name(target[1])

    def store(self, target, where, one):
        if target[0] == "element":
            self.array(target[1])[where] = one
        elif target[0] == "field":
            self.room.set_field(where, one)
        else:
            self.set_name(target[1], one)

    def value(self, tree):
        return (yield from getattr(self, "value_" + tree[0])(*tree[1:]))

    def form(self, tree):
        """The text of what a text is held against."""
        return tree[1] if tree[0] == "pattern" else text((yield from self.value(tree)))

    def value_number(self, top, bottom):
        return ("number", top, bottom)
        yield

    def value_text(self, one):
        return ("text", one)
        yield

    def value_pattern(self, form):
        return truth(slowpatterns.holds(slowvalues.pattern(form), self.room.record[0]))
        yield

    def value_name(self, name):
        return self.get_name(name)
        yield

    def value_element(self, array, keys):
        key = yield from self.key(keys)
        return self.room.element(self.array(array), key)

    def value_field(self, index):
        return self.room.field((yield from self.value(index)))

    def value_set(self, target, part):
        one = yield from self.value(part)
        where = yield from self.where(target)
        self.store(target, where, one)
        return one

    def value_change(self, operator, target, part):
        one = yield from self.value(part)
        where = yield from self.where(target)
        made = slowvalues.operated(operator, self.old(target, where), one)
        self.store(target, where, made)
        return made

    def value_step(self, target, by, before):
        where = yield from self.where(target)
        old = slowvalues.value(slowvalues.number(self.old(target, where)))
        new = slowvalues.value(slowvalues.number(old) + by)
        self.store(target, where, new)
        return new if before else old

    def value_choose(self, test, one, other):
        holds = true((yield from self.value(test)))
        return (yield from self.value(one if holds else other))

    def value_or(self, one, other):
        if true((yield from self.value(one))):
            return ONE
        return truth(true((yield from self.value(other))))

    def value_and(self, one, other):
        if not true((yield from self.value(one))):
            return ZERO
        return truth(true((yield from self.value(other))))

    def value_in(self, keys, array):
        key = yield from self.key(keys)
        return truth(key in self.array(array))

    def value_match(self, one, other, negated):
        line = text((yield from self.value(one)))
        form = yield from self.form(other)
        return truth(slowpatterns.holds(slowvalues.pattern(form), line) != negated)

    def value_compare(self, operator, one, other):
        one, other = yield from self.values([one, other])
        order = slowvalues.compared(one, other)
        return truth({"<": order < 0, "<=": order <= 0, "==": order == 0, "!=": order != 0, ">": order > 0,
                      ">=": order >= 0}[operator])

    def value_join(self, one, other):
        values = yield from self.values([one, other])
        line = text(values[0]) + text(values[1])
        if len(line) > 4000:
            raise Failed("long")
        return ("text", line)

    def value_op(self, operator, one, other):
        values = yield from self.values([one, other])
        return slowvalues.operated(operator, *values)

    def value_not(self, part):
        return truth(not true((yield from self.value(part))))

    def value_minus(self, part):
        return slowvalues.value(-slowvalues.number((yield from self.value(part))))

    def value_plus(self, part):
        return slowvalues.value(slowvalues.number((yield from self.value(part))))

    def value_call(self, name, trees):
        _, params, body = self.functions[name]
        cells = []
        for param, tree in zip(params, trees):
            if self.kinds[(name, param)] == "array":
                cells.append(self.reference(tree[1]))
            else:
                cells.append((yield from self.value(tree)))
        if len(self.room.frames) == 16:
            raise Failed("deep")
        for param in params[len(trees):]:
            cells.append({} if self.kinds[(name, param)] == "array" else ("unset",))
        self.backs = tuple(self.backs[:len(self.room.frames)]) + (self.room.place,)
        self.room.frames.append((name, cells))
        one = ("unset",)
        try:
            yield from self.body(body)
        except Return as found:
            one = found.args[0]
        self.room.frames.pop()
        self.room.place = self.backs[len(self.room.frames)]
        return one

    def value_built(self, word, trees):
        room = self.room
        if word == "length" and trees == ():
            return ("number", len(room.record[0]), 1)
        if word == "length" and trees[0][0] == "name" and self.is_array(trees[0][1]):
            return ("number", len(self.array(trees[0][1])), 1)
        if word == "match":
            line = text((yield from self.value(trees[0])))
            return room.match(line, (yield from self.form(trees[1])))
        if word == "split":
            return (yield from self.split(trees))
        if word in ("sub", "gsub"):
            return (yield from self.substitute(word, trees))
        values = yield from self.values(trees)
        if word == "close":
            return ("number", room.close(text(values[0])), 1)
        return slowvalues.built(word, values)

    def is_array(self, name):
        if self.cell(name) is None:
            return self.kinds[("", name)] == "array"
        return self.kinds[(self.room.frames[-1][0], name)] == "array"

    def split(self, trees):
        line = text((yield from self.value(trees[0])))
        form = self.room.special("FS")
        if len(trees) == 3:
            form = yield from self.form(trees[2])
            if trees[2][0] == "pattern" and len(form) <= 1:
                form = "(" + form + ")"
        return self.room.split(line, self.array(trees[1][1]), form)

    def substitute(self, word, trees):
        form = yield from self.form(trees[0])
        new = text((yield from self.value(trees[1])))
        target = trees[2] if len(trees) > 2 else ("field", ("number", 0, 1))
        where = yield from self.where(target)
        line = text(self.old(target, where))
        made, many = slowvalues.replaced(slowvalues.pattern(form), new, line, word == "gsub")
        if many:
            self.store(target, where, ("text", made))
        return ("number", many, 1)

    def value_getline(self, kind, part, target):
        name = ""
        if part is not None:
            name = text((yield from self.value(part)))
        where = (yield from self.where(target)) if target is not None else None
        while True:
            try:
                many, line = self.room.read(kind, name, target is None)
                break
            except Waits:
                yield None
        if many == 1 and target is not None:
            self.store(target, where, ("seen", line))
        return ("number", many, 1)


def walk(program, world, count):
    return Walker(program, world).outcome(count)
