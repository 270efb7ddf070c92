"""Copies, first kinds, feeds and roots of a code: each reached row is done once with spots for things."""

import soundness

END = ("phase", "end")
N, T = ["number"], ["text"]
SPECIAL_KINDS = {"NF": N, "NR": N, "FNR": N, "RSTART": N, "RLENGTH": N, "FILENAME": T, "FS": T, "OFS": T, "ORS": T,
        "RS": T,
                 "SUBSEP": T}
# What instructions give that is no copy: the kinds of each thing.
KINDS = {"op": [N], "minus": [N], "plus": [N], "not": [N], "compare": [N], "compare_as": [N], "match": [N],
        "range": [N],
         "is_in": [N], "size": [N], "close": [N], "split": [N], "key": [T], "join": [T], "substitute": [T, N],
         "field": [["seen", "unset"]]}
BUILT = {"length": N, "index": N, "int": N, "match": N, "substr": T, "tolower": T, "toupper": T, "sprintf": T}
NAMED = {"jump": 1, "jump_if": 2, "next_key": 1, "record": 1, "next": 1}
RECORD = ("record",)


def scalar(name):
    return ("scalar", name)


class Flow:
    """Sets of pairs: firsts (spot, kind), copies and feeds (spot, spot), planted (root, spot)."""

    def __init__(self, code):
        self.code = code
        self.numbers = {body[0]: at for at, body in enumerate(code[3])}
        self.shapes = soundness.shapes(code)
        self.live = self.live_bodies()
        self.firsts, self.copies, self.feeds, self.planted, self.course = set(), set(), set(), set(), set()
        self.spots = {RECORD} | {scalar(name) for name in code[0]} | {("array", name) for name in code[1]}
        self.arrays = {}
        self.rows = [(body, at) for body in self.live for at in self.shapes[body]]
        self.gather_spots()
        self.gather_arrays()
        self.gathered = []
        for name in code[0]:
            self.firsts |= {(scalar(name), kind) for kind in SPECIAL_KINDS.get(name, ["unset"])}
        for body, at in self.rows:
            self.do_row(body, at)
        self.feed_far()
        self.feeds |= self.copies
        self.plant()

    def row(self, body, at):
        return self.code[3][body][2][at]

    def live_bodies(self):
        live, grows = {0}, True
        while grows:
            calls = {self.numbers[self.code[3][body][2][at][1]] for body in live for at in self.shapes[body]
                     if self.code[3][body][2][at][0] == "call"}
            grows = not calls <= live
            live |= calls
        return sorted(live)

    def gather_spots(self):
        for body in self.live:
            if body:
                self.spots.add(("result", body))
            self.spots |= {("local", body, at) for at in range(len(self.code[3][body][1]))}
        for body, at in self.rows:
            self.spots |= {("entry", body, at, height) for height,
                    word in enumerate(self.shapes[body][at]) if word == "value"}

    def place(self, body, where):
        return ("array", where[1]) if where[0] == "global" else ("local", body, where[1])

    def followers(self, body, at):
        return set(soundness.followers(self.code[3][body][2], at))

    def left_alone(self, body, at):
        """How many things an instruction leaves alone, from the bottom on."""
        row, shape = self.row(body, at), self.shapes[body][at]
        if row[0] == "next":
            return 0
        if row[0] in ("drop", "next_key"):
            return len(shape) - 1
        heads = {name: params for name, params, _ in self.code[3]}
        return len(shape) - len(soundness.taken_and_given(row, heads)[0])

    def gather_arrays(self):
        """Which arrays each thing "array" on a stack may be, by going on as long as something grows."""
        grows = True
        while grows:
            before = sum(len(one) for one in self.arrays.values())
            for body, at in self.rows:
                row, shape = self.row(body, at), self.shapes[body][at]
                for following in self.followers(body, at):
                    if row[0] == "array":
                        self.arrays.setdefault((body, following, len(shape)), set()).add(self.place(body, row[1]))
                    for height in range(self.left_alone(body, at)):
                        if shape[height] == "array":
                            self.arrays.setdefault((body, following, height), set()).update(
                                self.arrays.get((body, at, height), set()))
            grows = before < sum(len(one) for one in self.arrays.values())

    def do_row(self, body, at):
        row, shape = self.row(body, at), self.shapes[body][at]
        left = self.left_alone(body, at)
        took = [("entry", body, at, height) for height in range(left, len(shape)) if shape[height] == "value"]
        gave = []
        for following in self.followers(body, at):
            for height, word in enumerate(self.shapes[body][following]):
                spot = ("entry", body, following, height)
                if word == "value" and height < left:
                    self.copies.add((("entry", body, at, height), spot))
                elif word == "value" and row[0] != "next":
                    gave.append(spot)
        gave = sorted(set(gave))
        self.gathered.append((body, at, row, took, gave))
        self.feeds |= {(one, other) for one in took for other in gave}
        kinds = KINDS.get(row[0], [])
        if row[0] == "constant":
            kinds = [[row[1][0]]]
        elif row[0] == "built":
            kinds = [BUILT[row[1]]]
        elif row[0] == "read":
            kinds = [N] if row[2] == "record" else [["seen", "unset"], N]
        elif row[0] == "next_key":
            kinds = [T]
        for spot, some in zip(gave, kinds):
            self.firsts |= {(spot, kind) for kind in some}
        action = getattr(self, "do_" + row[0], None)
        if action is not None:
            action(body, row, took, gave)
        if row[0] == "call":
            self.call_arrays(body, at, row)

    def copy(self, one, other):
        self.copies.add((one, other))

    def feed(self, ones, others):
        self.feeds |= {(one, other) for one in ones for other in others}

    def do_copy(self, body, row, took, gave):
        self.copy(took[0], gave[0]), self.copy(took[0], gave[1])

    def do_turn(self, body, row, took, gave):
        for at in range(row[1]):
            self.copy(took[at], gave[(at - 1) % row[1]])

    def do_name(self, body, row, took, gave):
        self.copy(scalar(row[1]), gave[0])

    def do_local(self, body, row, took, gave):
        self.copy(("local", body, row[1]), gave[0])

    def do_set_name(self, body, row, took, gave):
        self.copy(took[0], gave[0])
        if row[1] == "NF":
            self.feed(took, [scalar("NF")])
        else:
            self.copy(took[0], scalar(row[1]))

    def do_set_local(self, body, row, took, gave):
        self.copy(took[0], gave[0]), self.copy(took[0], ("local", body, row[1]))

    def do_set_field(self, body, row, took, gave):
        self.copy(took[0], gave[0])
        self.feed(took, [RECORD])

    def do_set_element(self, body, row, took, gave):
        self.copy(took[0], gave[0]), self.copy(took[0], self.place(body, row[1]))
        self.feed(took[1:], [self.place(body, row[1])])

    def do_element(self, body, row, took, gave):
        array = self.place(body, row[1])
        self.copy(array, gave[0])
        self.firsts.add((array, "unset"))
        self.feed(took, [array])

    def do_is_in(self, body, row, took, gave):
        self.feed([self.place(body, row[1])], gave)

    def do_size(self, body, row, took, gave):
        self.feed([self.place(body, row[1])], gave)

    def do_delete(self, body, row, took, gave):
        self.feed(took, [self.place(body, row[1])])

    def do_split(self, body, row, took, gave):
        array = self.place(body, row[1])
        self.firsts.add((array, "seen"))
        self.feed(took + [scalar("FS")], [array] + gave)

    def do_field(self, body, row, took, gave):
        self.feed([RECORD], gave)

    def do_key(self, body, row, took, gave):
        if row[1] >= 2:
            self.feed([scalar("SUBSEP")], gave)

    def do_built(self, body, row, took, gave):
        if row[1] == "match":
            self.feed(took, [scalar("RSTART"), scalar("RLENGTH")])

    def do_return(self, body, row, took, gave):
        self.copy(took[0], ("result", body))

    def do_call(self, body, row, took, gave):
        called = self.numbers[row[1]]
        params = self.code[3][called][1]
        self.copy(("result", called), gave[0])
        values = [at for at in range(row[2]) if params[at] == "value"]
        for at, spot in zip(values, took):
            self.copy(spot, ("local", called, at))
        for at in range(row[2], len(params)):
            if params[at] == "value":
                self.firsts.add((("local", called, at), "unset"))

    def call_arrays(self, body, at, row):
        called = self.numbers[row[1]]
        low = len(self.shapes[body][at]) - row[2]
        for number in range(row[2]):
            for array in self.arrays.get((body, at, low + number), set()):
                self.copy(array, ("local", called, number)), self.copy(("local", called, number), array)

    def feed_far(self):
        """The feeds between rows that are far from each other, and those that are always there."""
        def pick(*words):
            return [one for one in self.gathered if one[2][0] in words]

        reads = pick("read")
        asides = [one for one in reads if one[2][1] != "main"]
        names = [one[3][-1] for one in asides + pick("close")]
        printed = [one[3][-1] for one in pick("print", "printf") if one[2][2] != ""]
        for one in pick("close"):
            self.feed(names + printed, one[4])
        for one in reads:
            self.feed([scalar("RS")], one[4])
        for one in asides:
            self.feed(names, one[4])
        self.feed(names, [scalar("NR")])
        if any(one[2][2] == "record" for one in asides):
            self.feed(names, [RECORD])
        self.feed([scalar("RS")], [scalar("NR"), scalar("FNR"), RECORD])
        self.feed([scalar("NF"), scalar("FS"), scalar("OFS")], [RECORD])
        self.feed([RECORD], [scalar("NF")])
        for body, _, row, _, _ in pick("walk"):
            for other, _, _, _, gave in pick("next_key"):
                if other == body:
                    self.feed([self.place(body, row[1])], gave)
        for body, _, row, took, _ in self.gathered:
            if row[0] in ("jump_if", "exit"):
                self.course |= set(took)
            if row[0] == "walk":
                self.course.add(self.place(body, row[1]))
            if row[0] == "record" or row[:2] == ("read", "main"):
                self.course.add(scalar("RS"))

    def plant(self):
        fieldwise = not any(row[0] == "set_field" or row[0] == "set_name" and row[1] in ("NF", "FS", "RS")
                            or row[0] == "read" and row[1] != "main" and row[2] == "record"
                            for _, _, row, _, _ in self.gathered)
        for body, at, row, _, gave in self.gathered:
            ahead = self.row(body, at - 1) if self.is_straight(body, at) else ("none",)
            constant = ahead[1] if ahead[0] == "constant" else ("unset",)
            if row[0] == "field":
                root = ("field", 0)
                if fieldwise and constant[0] == "number" and constant[2] == 1 and constant[1] >= 0:
                    root = ("field", constant[1])
                self.planted |= {(root, spot) for spot in gave}
            if row[0] == "read" and row[1] == "main" and row[2] == "value":
                self.planted |= {(("field", 0), spot) for spot in gave}
            if row[0] == "read" and row[1] != "main":
                root = (row[1], constant[1] if constant[0] == "text" else "")
                where = gave + ([scalar("NR")] if row[1] == "|" else []) + ([RECORD] if row[2] == "record" else [])
                self.planted |= {(root, spot) for spot in where}

    def is_straight(self, body, at):
        """Whether a row is straight with the one ahead of it."""
        named = {self.row(body, one)[NAMED[self.row(body, one)[0]]] for one in self.shapes[body]
                 if self.row(body, one)[0] in NAMED}
        entry = at == 0 or body == 0 and self.row(body, at) == END
        return at - 1 in self.shapes[body] and at not in named and not entry

    def spread(self, firsts, pairs):
        """All spots to which pairs lead from some, going on as long as something grows."""
        found, grows = set(firsts), True
        while grows:
            new = {other for one, other in pairs if one in found} - found
            found |= new
            grows = bool(new)
        return found

    def kinds(self):
        """For each spot the ascending list of its kinds."""
        table = {spot: [] for spot in self.spots}
        for kind in ["number", "seen", "text", "unset"]:
            for spot in self.spread({spot for spot, one in self.firsts if one == kind}, self.copies):
                table[spot].append(kind)
        return table

    def hanging(self):
        """For each spot the set of the roots on which it hangs by feeds alone."""
        table = {spot: set() for spot in self.spots}
        for root in {root for root, _ in self.planted}:
            for spot in self.spread({spot for one, spot in self.planted if one == root}, self.feeds):
                table[spot].add(root)
        return table
