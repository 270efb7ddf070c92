"""Writing code for expressions."""

from patterndeeds.values import ONE, ZERO, truth_value

STEPS = {1: "+", -1: "-"}


class Writer:
    """The rows of one body that is being written.

    indexes has the indexes of the parameters by their names, kinds their kinds, arrays the names that
    are arrays elsewhere, heads the kinds of the parameters of each function. place is the place that
    was given last; loops has the loops around a statement; goal is the row to which next goes.
    """

    def __init__(self, params, kinds, arrays, heads):
        self.indexes = {param: at for at, param in enumerate(params)}
        self.kinds = kinds
        self.arrays = arrays
        self.heads = heads
        self.rows = []
        self.at_place = 0
        self.loops = []
        self.goal = 0

    def put(self, *row):
        """Puts an instruction behind the others; its row."""
        self.rows.append(row)
        return len(self.rows) - 1

    def land(self, jumps):
        """Lets the instructions in some rows go to the row that comes next."""
        for at in jumps:
            self.rows[at] = self.rows[at][:-1] + (len(self.rows),)

    def put_tick(self):
        """Puts a tick at the next place."""
        self.at_place += 1
        self.put("tick", self.at_place)

    def is_array(self, name):
        """Whether a name is an array here."""
        if name in self.indexes:
            return self.kinds[self.indexes[name]] == "array"
        return name in self.arrays

    def array(self, name):
        """The array place of a name."""
        if name in self.indexes:
            return ("local", self.indexes[name])
        return ("global", name)


def write(writer, tree):
    """Writes what gives the value of an expression."""
    action = WRITERS[tree[0]]
    action(writer, tree)


def write_all(writer, trees):
    """Writes what gives the values of some expressions."""
    for tree in trees:
        write(writer, tree)


def write_constant(writer, tree):
    """A number or a text, which as a value looks as it does as a tree."""
    writer.put("constant", tree)


def write_pattern(writer, tree):
    """A pattern, held against the record."""
    write_field(writer, ("field", ZERO))
    writer.put("constant", ("text", tree[1]))
    writer.put("match")


def write_matched(writer, tree):
    """The text of a pattern that something else is held against."""
    if tree[0] == "pattern":
        writer.put("constant", ("text", tree[1]))
    else:
        write(writer, tree)


def write_name(writer, tree):
    """What a name holds."""
    if tree[1] in writer.indexes:
        writer.put("local", writer.indexes[tree[1]])
    else:
        writer.put("name", tree[1])


def write_key(writer, keys):
    """The key that some expressions make."""
    write_all(writer, keys)
    writer.put("key", len(keys))


def write_element(writer, tree):
    """An entry of an array."""
    write_key(writer, tree[2])
    writer.put("element", writer.array(tree[1]))


def write_field(writer, tree):
    """A field."""
    write(writer, tree[1])
    writer.put("field")


def write_where(writer, target):
    """The key or the index of a target, nothing for a name; how many things this puts on the stack."""
    if target[0] == "name":
        return 0
    if target[0] == "element":
        write_key(writer, target[2])
    else:
        write(writer, target[1])
    return 1


def write_old(writer, target):
    """The old value of a target whose key or index lies on top and stays there."""
    if target[0] == "name":
        write_name(writer, target)
        return
    writer.put("copy")
    if target[0] == "element":
        writer.put("element", writer.array(target[1]))
    else:
        writer.put("field")


def write_stored(writer, target):
    """Sets a target; on top lies its key or index, if it has one, below that the value, which stays."""
    if target[0] == "element":
        writer.put("set_element", writer.array(target[1]))
    elif target[0] == "field":
        writer.put("set_field")
    elif target[1] in writer.indexes:
        writer.put("set_local", writer.indexes[target[1]])
    else:
        writer.put("set_name", target[1])


def write_turned(writer, where, target):
    """Sets a target to the value on top, below which its key or index lies, if it has one."""
    if where:
        writer.put("turn", 2)
    write_stored(writer, target)


def write_set(writer, tree):
    """A target that is set."""
    _, target, part = tree
    write(writer, part)
    write_where(writer, target)
    write_stored(writer, target)


def write_change(writer, tree):
    """A target that is changed by an operator."""
    _, operator, target, part = tree
    write(writer, part)
    where = write_where(writer, target)
    write_old(writer, target)
    writer.put("turn", 2 + where)
    writer.put("op", operator)
    write_turned(writer, where, target)


def write_step(writer, tree):
    """A target that is made greater or less by 1."""
    _, target, by, before = tree
    where = write_where(writer, target)
    write_old(writer, target)
    writer.put("plus")
    if not before:
        writer.put("copy")
    writer.put("constant", ONE)
    writer.put("op", STEPS[by])
    if before:
        write_turned(writer, where, target)
        return
    if where:
        writer.put("turn", 3)
    write_stored(writer, target)
    writer.put("drop")


def write_choose(writer, tree):
    """One of two expressions."""
    _, test, one, other = tree
    write(writer, test)
    skip = writer.put("jump_if", False, 0)
    write(writer, one)
    end = writer.put("jump", 0)
    writer.land([skip])
    write(writer, other)
    writer.land([end])


def write_either(writer, tree):
    """An or, an and: both are known at once if the first part has a certain truth."""
    known = tree[0] == "or"
    write(writer, tree[1])
    first = writer.put("jump_if", known, 0)
    write(writer, tree[2])
    second = writer.put("jump_if", known, 0)
    writer.put("constant", truth_value(not known))
    end = writer.put("jump", 0)
    writer.land([first, second])
    writer.put("constant", truth_value(known))
    writer.land([end])


def write_in(writer, tree):
    """Whether an entry is there."""
    write_key(writer, tree[1])
    writer.put("is_in", writer.array(tree[2]))


def write_match(writer, tree):
    """Whether a pattern holds in a text."""
    _, one, other, negated = tree
    write(writer, one)
    write_matched(writer, other)
    writer.put("match")
    if negated:
        writer.put("not")


def write_operated(writer, tree):
    """Two parts, and what an operator or a sign of comparison makes of them."""
    write(writer, tree[2])
    write(writer, tree[3])
    writer.put(tree[0], tree[1])


def write_plain(writer, tree):
    """One or two parts, and the instruction that has the same name as the tree."""
    write_all(writer, tree[1:])
    writer.put(tree[0])


def write_call(writer, tree):
    """A call of a function."""
    _, name, trees = tree
    for kind, part in zip(writer.heads[name], trees):
        if kind == "array":
            writer.put("array", writer.array(part[1]))
        else:
            write(writer, part)
    writer.put("call", name, len(trees))


def write_built(writer, tree):
    """A call of a built-in word."""
    _, word, trees = tree
    if word in OWN_WRITERS:
        action = OWN_WRITERS[word]
        action(writer, tree)
    else:
        write_all(writer, trees)
        writer.put("built", word, len(trees))


def write_length(writer, tree):
    """The length of a text or of an array."""
    trees = tree[2]
    if trees == ():
        write_field(writer, ("field", ZERO))
    elif trees[0][0] == "name" and writer.is_array(trees[0][1]):
        writer.put("size", writer.array(trees[0][1]))
        return
    else:
        write(writer, trees[0])
    writer.put("built", "length", 1)


def write_close(writer, tree):
    """A name that is closed."""
    write(writer, tree[2][0])
    writer.put("close")


def write_built_match(writer, tree):
    """Where a pattern holds in a text."""
    write(writer, tree[2][0])
    write_matched(writer, tree[2][1])
    writer.put("built", "match", 2)


def write_split(writer, tree):
    """A text that is parted into an array."""
    trees = tree[2]
    write(writer, trees[0])
    if len(trees) == 3:
        part = trees[2]
        if part[0] == "pattern" and len(part[1]) <= 1:
            # Alone, so short a text would be no pattern as a separator.
            part = ("text", "(" + part[1] + ")")
        write_matched(writer, part)
    writer.put("split", writer.array(trees[1][1]), len(trees) - 1)


def write_substitute(writer, tree):
    """A target in whose text stretches are replaced."""
    _, word, trees = tree
    target = ("field", ZERO)
    if len(trees) == 3:
        target = trees[2]
    write_matched(writer, trees[0])
    write(writer, trees[1])
    where = write_where(writer, target)
    write_old(writer, target)
    writer.put("turn", 3 + where)
    writer.put("turn", 3 + where)
    writer.put("substitute", word == "gsub")
    writer.put("copy")
    write_kept(writer, where, target)


def write_getline(writer, tree):
    """A record that is read besides."""
    _, kind, part, target = tree
    if part is not None:
        write(writer, part)
    if target is None:
        writer.put("read", kind, "record")
        return
    where = write_where(writer, target)
    if where and part is not None:
        writer.put("turn", 2)
    writer.put("read", kind, "value")
    writer.put("copy")
    writer.put("constant", ZERO)
    writer.put("compare", ">")
    write_kept(writer, where, target)


def write_kept(writer, where, target):
    """Sets a target if the value on top is true.

    Below it lie a number, which stays alone, the text to set, and the key or index, if there is one.
    """
    skip = writer.put("jump_if", False, 0)
    write_number_below(writer, where)
    write_turned(writer, where, target)
    writer.put("drop")
    end = writer.put("jump", 0)
    writer.land([skip])
    write_number_below(writer, where)
    for _ in range(1 + where):
        writer.put("drop")
    writer.land([end])


def write_number_below(writer, where):
    """Puts the number on top below a text, and below the key or index of a target, if there is one."""
    for _ in range(1 + where):
        writer.put("turn", 2 + where)


OWN_WRITERS = {
    "length": write_length, "close": write_close, "match": write_built_match, "split": write_split,
    "sub": write_substitute, "gsub": write_substitute,
}
WRITERS = {
    "number": write_constant, "text": write_constant, "pattern": write_pattern, "name": write_name,
    "element": write_element, "field": write_field, "set": write_set, "change": write_change,
    "step": write_step, "choose": write_choose, "or": write_either, "and": write_either, "in": write_in,
    "match": write_match, "compare": write_operated, "join": write_plain, "op": write_operated,
    "not": write_plain, "minus": write_plain, "plus": write_plain, "call": write_call, "built": write_built,
    "getline": write_getline,
}
