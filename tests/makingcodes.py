"""Random codes: sound ones, with rows that are not reached, jumps about and things left on the stack, and others."""

SPECIALS = ("FILENAME", "FNR", "FS", "NF", "NR", "OFS", "ORS", "RLENGTH", "RS", "RSTART", "SUBSEP")
SCALARS = tuple(sorted(SPECIALS + ("x", "y")))
ARRAYS = ("a", "b")
END = ("phase", "end")
CONSTANTS = [("number", 0, 1), ("number", 1, 1), ("number", 2, 1), ("number", -1, 2), ("text", ""), ("text", "a"),
             ("text", "f"), ("text", "12"), ("text", "a b"), ("unset",), ("number", 10 ** 60, 1), ("text", "(")]
OPERATORS = ["+", "-", "*", "/", "@", "^"]
COMPARERS = ["<", "<=", "==", "!=", ">", ">="]
ROWS_NAMED = {"jump": 1, "jump_if": 2, "next_key": 1, "record": 1, "next": 1}
STOPPING = ("jump", "next", "return", "exit", "halt")


class Codes:
    """A maker of codes."""

    def __init__(self, random):
        self.random = random
        self.heads = {}
        self.name = ""
        self.params = ()

    def pick(self, rows):
        return self.random.choice(rows)

    def chance(self, worth):
        return self.random.random() < worth

    def code(self, most=30):
        """A sound code."""
        self.heads = {}
        for name in ["f", "g", "h"][:self.pick([0, 1, 1, 2, 3])]:
            self.heads[name] = tuple(self.pick(["value", "array"]) for _ in range(self.pick([0, 1, 1, 2])))
        bodies = [("", (), self.body("", (), most))]
        for name, params in self.heads.items():
            bodies.append((name, params, self.body(name, params, most // 2)))
        return (SCALARS, ARRAYS, 2, tuple(bodies))

    def place(self):
        """An array place."""
        places = [("local", at) for at, kind in enumerate(self.params) if kind == "array"]
        return self.pick([("global", "a"), ("global", "b")] + places * 2)

    def pushing(self):
        """An instruction that takes nothing and gives a value."""
        rows = [("constant", self.pick(CONSTANTS)), ("constant", self.pick(CONSTANTS)), ("name", self.pick(SCALARS)),
                ("name", self.pick(["x", "y"])), ("range", self.pick([0, 1])), ("size", self.place())]
        rows += [("local", at) for at, kind in enumerate(self.params) if kind == "value"] * 2
        return self.pick(rows)

    def plain(self):
        """An instruction that names no row, with the numbers of values that it takes and gives."""
        one = [("field",), ("element", self.place()), ("is_in", self.place()), ("minus",), ("plus",), ("not",),
               ("close",), ("key", 1), ("built", self.pick(["length", "tolower", "toupper", "int", "sprintf"]), 1),
               ("set_name", self.pick(["x", "y", "NF", "FS", "NR", "OFS"])), ("split", self.place(), 1)]
        one += [("set_local", at) for at, kind in enumerate(self.params) if kind == "value"] * 3
        two = [("set_field",), ("set_element", self.place()), ("op", self.pick(OPERATORS)),
               ("compare", self.pick(COMPARERS)), ("compare_as", self.pick(["number", "text"]), self.pick(COMPARERS)),
               ("join",), ("match",), ("key", 2), ("split", self.place(), 2),
               ("built", self.pick(["index", "substr", "match", "sprintf"]), 2), ("op", "+"), ("compare", "<")]
        kind = self.pick([">", ">>", "|"])
        return self.pick([(row, 1, 1) for row in one] + [(row, 2, 1) for row in two] + [
            (("drop",), 1, 0), (("drop",), 1, 0), (("copy",), 1, 2), (("copy",), 1, 2), (("turn", 2), 2, 2),
            (("turn", 2), 2, 2), (("turn", 3), 3, 3), (("substitute", self.pick([True, False])), 3, 2),
            (("print", 1, ""), 1, 0), (("print", 1, kind), 2, 0), (("printf", 1, ""), 1, 0),
            (("read", "main", self.pick(["record", "value"])), 0, None), (("printf", 2, kind), 3, 0),
            (("read", self.pick(["<", "|"]), self.pick(["record", "value"])), 1, None), (("tick", 0), 0, 0),
            (("tick", self.random.randrange(9)), 0, 0), (("set_range", self.pick([0, 1]), self.chance(0.5)), 0, 0),
            (("clear", self.place()), 0, 0), (("delete", self.place()), 1, 0)])

    def body(self, name, params, most):
        """The rows of a body."""
        self.name, self.params = name, params
        self.rows, self.shape, self.pending, self.ticks = [], (), [], {}
        self.ended = name != ""
        if name == "" and self.chance(0.5):
            # Elsewhere it may stand behind the end phase, so that an exit leads round without a tick.
            self.put(("phase", "main"), ())
        for _ in range(self.random.randrange(3, most)):
            self.add()
        while self.shape is not None or self.pending or not self.ended:
            self.stop()
        if self.chance(0.5):
            self.rows.extend([("tick", 3), ("jump", self.random.randrange(len(self.rows)))])
        return tuple(self.rows)

    def put(self, row, shape):
        if row[0] == "tick":
            self.ticks.setdefault(self.shape, []).append(len(self.rows))
        self.rows.append(row)
        self.shape = shape

    def put_named(self, row, there, shape):
        """Puts an instruction that names a row with a shape, which is None yet."""
        at = ROWS_NAMED[row[0]]
        if there in self.ticks and self.chance(0.5):
            self.put(row[:at] + (self.pick(self.ticks[there]),), shape)
        else:
            self.pending.append((len(self.rows), there))
            self.put(row, shape)

    def land(self):
        """Lets rows that wait for one with this shape come here, perhaps not all of them."""
        for at, shape in list(self.pending):
            named = ROWS_NAMED[self.rows[at][0]]
            row = self.rows[at]
            if shape == self.shape and not (row[0] == "next_key" and at + 1 == len(self.rows)) and self.chance(0.7):
                self.rows[at] = row[:named] + (len(self.rows),) + row[named + 1:]
                self.pending.remove((at, shape))
                self.landed = True

    def resume(self):
        """Goes on where nothing leads, perhaps with rows that are not reached."""
        if self.chance(0.2):
            row = self.pick([self.pushing(), ("drop",), ("op", "+"), ("tick", 7)])
            self.rows.append(row)
        if not self.ended and (not self.pending or self.chance(0.3)):
            self.shape = ()
            self.put_end()
        elif self.pending:
            self.shape = self.pick(self.pending)[1]
            self.landed = False
            while not self.landed:
                self.land()
                if not self.landed and self.rows and self.rows[-1][0] == "next_key":
                    return
            return

    def put_end(self):
        self.land()
        self.put(END, ())
        self.ended = True

    def stop(self):
        """Ends what goes on here, without anything new that waits."""
        if self.shape is None:
            self.resume()
            return
        self.land()
        if self.name != "":
            self.put(self.pushing(), self.shape + ("value",))
            self.put(("return",), None)
        elif not self.ended and self.shape == ():
            self.put_end()
        else:
            self.put(self.pick([("halt",), ("exit", False), ("halt",)]), None)

    def add(self):
        """Puts some instructions."""
        if self.shape is None:
            if not self.pending and self.ended:
                return
            self.resume()
            return
        self.land()
        shape = self.shape
        if self.chance(0.1):
            self.put(("tick", self.random.randrange(9)), shape)
        values = 0
        while values < len(shape) and shape[len(shape) - 1 - values] == "value":
            values += 1
        what = self.random.random()
        if len(shape) < 5 and what < 0.3:
            self.put(self.pushing(), shape + ("value",))
        elif what < 0.7:
            row, taken, given = self.plain()
            if taken <= values:
                if given is None:
                    given = 2 if row[2] == "value" else 1
                self.put(row, shape[:len(shape) - taken] + ("value",) * given)
        elif what < 0.78:
            self.add_walk(shape)
        elif what < 0.82:
            self.add_call(shape)
        else:
            self.add_going(shape, values)

    def add_walk(self, shape):
        if shape and shape[-1] == "walk":
            if self.chance(0.3):
                self.put(("drop",), shape[:-1])
            else:
                self.put_named(("next_key", 0), shape[:-1], shape + ("value",))
        elif len(shape) < 4:
            self.put(("walk", self.place()), shape + ("walk",))

    def add_call(self, shape):
        if not self.heads:
            return
        name = self.pick(sorted(self.heads))
        kinds = self.heads[name][:self.random.randrange(len(self.heads[name]) + 1)]
        for kind in kinds:
            if kind == "array":
                if self.chance(0.3):
                    self.put(self.pushing(), self.shape + ("value",))
                    self.put_named(("jump_if", True, 0), self.shape[:-1], self.shape[:-1])
                self.put(("array", self.place()), self.shape + ("array",))
            else:
                self.put(self.pushing(), self.shape + ("value",))
            if self.chance(0.3):
                self.land()
        self.put(("call", name, len(kinds)), shape + ("value",))

    def add_going(self, shape, values):
        what = self.random.randrange(10)
        if what < 3 and values:
            self.put_named(("jump_if", self.chance(0.5), 0), shape[:-1], shape[:-1])
        elif what == 3:
            self.put_named(("jump", 0), shape, None)
        elif self.name != "":
            if what == 4 and values:
                self.put(("return",), None)
            elif what == 5 and self.chance(0.2):
                self.put(("exit", False), None)
        elif what < 6:
            self.put_named(("record", 0), shape, shape)
        elif what == 6:
            self.put_named(("next", 0), (), None)
        elif what == 7 and not self.ended and shape == ():
            self.put_end()
        elif self.chance(0.3) and values:
            self.put(("exit", True), None)

    def world(self):
        """A world."""
        mains = tuple((self.pick(["f", "m"]), self.line(12), self.chance(0.8)) for _ in range(self.pick([0, 1, 2])))
        keys = [key for key in [("<", "a"), ("<", "f"), ("|", "f")] if self.chance(0.7)]
        return (mains, tuple(key + (self.line(8), self.chance(0.8)) for key in keys))

    def line(self, most):
        return "".join(self.pick("aab12 ,\n\n") for _ in range(self.random.randrange(most)))

    def changed(self, code):
        """The code with an instruction exchanged, left out or put in; a code, but perhaps not a sound one."""
        number = self.random.randrange(len(code[3]))
        name, params, rows = code[3][number]
        self.name, self.params = name, params
        self.heads = {body[0]: body[1] for body in code[3][1:]}
        rows = list(rows)
        at = self.random.randrange(len(rows))
        row = self.pick([self.pushing(), self.plain()[0], ("drop",), ("drop",), ("jump",
                self.random.randrange(len(rows))),
                         ("jump_if", True, self.random.randrange(len(rows))), ("walk", self.place()),
                         ("array", self.place())])
        if rows[at] == END:
            rows.insert(at, row)
        elif self.chance(0.2) and len(rows) > 2:
            del rows[at]
            rows = [one if one[0] not in ROWS_NAMED else one[:ROWS_NAMED[one[0]]]
                    + (min(one[ROWS_NAMED[one[0]]], len(rows) - 1),) + one[ROWS_NAMED[one[0]] + 1:] for one in rows]
        else:
            rows[at] = row
        return code[:3] + (code[3][:number] + ((name, params, tuple(rows)),) + code[3][number + 1:],)

    def shuffled(self, code):
        """The code with the rows of each body in another sequence, and jumps between them."""
        return code[:3] + (tuple((name, params, self.shuffled_rows(rows)) for name, params, rows in code[3]),)

    def shuffled_rows(self, rows):
        order = list(range(len(rows)))
        self.random.shuffle(order)
        places = {}
        behind = 1
        for at in order:
            places[at] = behind
            behind += 1 if rows[at][0] in STOPPING else 2
        # Where no row is behind a row, the jump leads to itself.
        found = [("jump", places[0])]
        for at in order:
            row = rows[at]
            if row[0] in ROWS_NAMED:
                named = ROWS_NAMED[row[0]]
                row = row[:named] + (places[row[named]],) + row[named + 1:]
            found.append(row)
            if row[0] not in STOPPING:
                found.append(("jump", places.get(at + 1, len(found))))
        return tuple(found)
