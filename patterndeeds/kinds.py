"""Kinds: which names are arrays and which are values."""

from patterndeeds.errors import InvalidFunction, KindClash, UnknownFunction
from patterndeeds.names import check_program, check_sound, found_faults
from patterndeeds.signs import SPECIALS, is_name
from patterndeeds.standing import function_table, names_at, slot_of, standings


class Slots:
    """The uses and links of a program without a fault."""

    def __init__(self, program):
        self.uses = []
        self.links = []
        self.functions = function_table(program)
        for name in SPECIALS:
            self.uses.append((0, ("", name), "value"))
        for standing in standings(program):
            self.take_names(standing)
            if standing.tree[0] == "call":
                self.take_call(standing)
        self.slots = {}
        for function in program[1]:
            for param in function[1]:
                self.slots[(function[0], param)] = True
        for _, slot, _ in self.uses + self.links:
            self.slots[slot] = True

    def take_names(self, standing):
        """The uses of the names in a tree itself."""
        for role, name in names_at(standing.tree):
            how = how_used(role, standing)
            if how != "":
                self.uses.append((standing.place, slot_of(standing.function, name), how))

    def take_call(self, standing):
        """The uses and links that hand arguments to a function."""
        _, name, trees = standing.tree
        for param, tree in zip(self.functions[name][1], trees):
            slot = (name, param)
            if tree[0] == "name":
                self.links.append((standing.place, slot_of(standing.function, tree[1]), slot))
            else:
                self.uses.append((standing.place, slot, "value"))

    def neighbours(self):
        """A dict of the ascending lists of the slots that a link joins to each slot."""
        table = {slot: [] for slot in self.slots}
        for _, slot, other in self.links:
            table[slot].append(other)
            table[other].append(slot)
        return {slot: sorted(set(table[slot])) for slot in table}

    def used(self, how):
        """A dict of True by the slots with such a use."""
        return {use[1]: True for use in self.uses if use[2] == how}


def how_used(role, standing):
    """How a name in a tree itself is used; empty if it is handed to a function or is called."""
    if role == "array":
        return "array"
    if role == "called":
        return ""
    above = standing.above
    if above is None:
        return "value"
    if above[0] == "call":
        return ""
    if above[0] == "built":
        return how_taken(above, standing.at)
    return "value"


def how_taken(tree, at):
    """How a built-in word uses a name that is its argument at an index."""
    if tree[1] == "length":
        return "open"
    if tree[1] == "split" and at == 1:
        return "array"
    return "value"


def checked_slots(program):
    """The uses and links of any value, if it is a program without a fault."""
    check_program(program)
    check_sound(program)
    return Slots(program)


def uses(program):
    """The ascending list of all uses."""
    return sorted(set(checked_slots(program).uses))


def links(program):
    """The ascending list of all links."""
    return sorted(set(checked_slots(program).links))


def is_sound(program):
    """Whether a program has neither a fault nor a clash chain."""
    check_program(program)
    return found_faults(program) == [] and chain_of(Slots(program)) is None


def clash_chain(program):
    """A clash chain with the fewest slots; None if there is none."""
    return chain_of(checked_slots(program))


def chain_of(slots):
    """A shortest row of linked slots from a use as an array to one as a value, or None."""
    ends = slots.used("value")
    neighbours = slots.neighbours()
    queue = sorted(slots.used("array"))
    before = {slot: None for slot in queue}
    done = 0
    while done < len(queue):
        slot = queue[done]
        done += 1
        if slot in ends:
            return way_back(before, slot)
        for other in neighbours[slot]:
            if other not in before:
                before[other] = slot
                queue.append(other)
    return None


def way_back(before, slot):
    """The row of slots that led to a slot."""
    row = []
    while slot is not None:
        row.append(slot)
        slot = before[slot]
    return row[::-1]


def is_clash_chain(program, value):
    """Whether any value is a clash chain of a program."""
    slots = checked_slots(program)
    if type(value) is not list or value == []:
        return False
    for slot in value:
        if not is_slot(slot):
            return False
    if value[0] not in slots.used("array") or value[-1] not in slots.used("value"):
        return False
    neighbours = slots.neighbours()
    for slot, other in zip(value, value[1:]):
        if other not in neighbours[slot]:
            return False
    return True


def is_slot(value):
    """Whether any value has the form of a slot."""
    return type(value) is tuple and len(value) == 2 and type(value[0]) is str and type(value[1]) is str


def tied(program):
    """The ascending list of the ascending lists of slots that are tied."""
    return tied_slots(checked_slots(program))


def tied_slots(slots):
    """The slots in ascending lists of those that are tied."""
    neighbours = slots.neighbours()
    seen = {}
    rows = []
    for slot in sorted(neighbours):
        if slot not in seen:
            rows.append(tied_to(slot, neighbours, seen))
    return rows


def tied_to(slot, neighbours, seen):
    """The ascending list of the slots that are tied to one; notes them as seen."""
    seen[slot] = True
    row = []
    waiting = [slot]
    while waiting:
        one = waiting.pop()
        row.append(one)
        for other in neighbours[one]:
            if other not in seen:
                seen[other] = True
                waiting.append(other)
    return sorted(row)


def checked_kinds(program):
    """A dict of the kinds of all slots; raises KindClash if there is a clash chain."""
    slots = checked_slots(program)
    chain = chain_of(slots)
    if chain is not None:
        raise KindClash(chain)
    table = {}
    for row in tied_slots(slots):
        kind = kind_of(row, slots.used("array"), slots.used("value"))
        for slot in row:
            table[slot] = kind
    return table


def kind_of(row, arrays_used, values_used):
    """The kind of slots that are tied."""
    for slot in row:
        if slot in arrays_used:
            return "array"
    for slot in row:
        if slot in values_used:
            return "value"
    return "open"


def slot_kinds(program):
    """The ascending list of the tuples (slot, kind) of all slots."""
    table = checked_kinds(program)
    return [(slot, table[slot]) for slot in sorted(table)]


def scalars(program):
    """The ascending tuple of the names outside of parameters that are no arrays."""
    table = checked_kinds(program)
    return tuple([slot[1] for slot in sorted(table) if slot[0] == "" and table[slot] != "array"])


def arrays(program):
    """The ascending tuple of the names outside of parameters that are arrays."""
    table = checked_kinds(program)
    return tuple([slot[1] for slot in sorted(table) if slot[0] == "" and table[slot] == "array"])


def parameter_kinds(program, function):
    """The tuple with "array" or "value" for each parameter of a function."""
    check_program(program)
    if not is_name(function):
        raise InvalidFunction("the value is no name")
    table = checked_kinds(program)
    functions = function_table(program)
    if function not in functions:
        raise UnknownFunction("no function has this name")
    kinds = []
    for param in functions[function][1]:
        kind = table[(function, param)]
        if kind == "open":
            kind = "value"
        kinds.append(kind)
    return tuple(kinds)
