"""Kinds: which names are arrays and which are values."""

from patterndeeds.errors import InvalidFunction, KindClash, UnknownFunction
from patterndeeds.names import check_program, found_faults, surveyed
from patterndeeds.signs import SPECIALS, is_name
from patterndeeds.survey import Survey


class Slots:
    """The slots of a program without a fault, by a survey of it.

    as_array and as_value have True by the slots with such a use, linked the list of the slots that a
    link joins to each slot that is linked.
    """

    def __init__(self, survey):
        self.survey = survey
        self.as_array = {}
        self.as_value = {("", name): True for name in SPECIALS}
        self.linked = {}
        for _, slot, how in survey.uses + survey.handed:
            if how == "array":
                self.as_array[slot] = True
            elif how == "value":
                self.as_value[slot] = True
        for _, slot, other in survey.links:
            self.linked.setdefault(slot, []).append(other)
            self.linked.setdefault(other, []).append(slot)

    def all_slots(self):
        """The ascending list of all slots."""
        found = [("", name) for name in SPECIALS] + list(self.linked)
        found.extend([use[1] for use in self.survey.uses])
        for name, params, _ in self.survey.functions.values():
            found.extend([(name, param) for param in params])
        return sorted(set(found))

    def clash_chain(self):
        """A shortest row of linked slots from a use as an array to one as a value, or None."""
        queue = sorted(self.as_array)
        before = {slot: None for slot in queue}
        done = 0
        while done < len(queue):
            slot = queue[done]
            done += 1
            if slot in self.as_value:
                return way_back(before, slot)
            for other in sorted(self.linked.get(slot, ())):
                if other not in before:
                    before[other] = slot
                    queue.append(other)
        return None

    def tied(self):
        """The ascending list of the ascending lists of slots that are tied."""
        seen = {}
        rows = []
        for slot in self.all_slots():
            if slot not in self.linked:
                rows.append([slot])
            elif slot not in seen:
                rows.append(self.tied_to(slot, seen))
        return rows

    def tied_to(self, slot, seen):
        """The ascending list of the slots that are tied to one; notes them as seen."""
        seen[slot] = True
        row = []
        waiting = [slot]
        while waiting:
            one = waiting.pop()
            row.append(one)
            for other in self.linked[one]:
                if other not in seen:
                    seen[other] = True
                    waiting.append(other)
        return sorted(row)

    def kind_table(self):
        """A dict of the kinds of all slots, if there is no clash chain."""
        table = {}
        for row in self.tied():
            kind = self.kind_of(row)
            for slot in row:
                table[slot] = kind
        return table

    def kind_of(self, row):
        """The kind of slots that are tied."""
        for slot in row:
            if slot in self.as_array:
                return "array"
        for slot in row:
            if slot in self.as_value:
                return "value"
        return "open"


def way_back(before, slot):
    """The row of slots that led to a slot."""
    row = []
    while slot is not None:
        row.append(slot)
        slot = before[slot]
    return row[::-1]


def checked_survey(program):
    """The survey of any value, if it is a program without a fault."""
    check_program(program)
    return surveyed(program)


def uses(program):
    """The ascending list of all uses."""
    survey = checked_survey(program)
    special = [(0, ("", name), "value") for name in SPECIALS]
    return sorted(set(special + survey.uses + survey.handed))


def links(program):
    """The ascending list of all links."""
    return sorted(set(checked_survey(program).links))


def is_sound(program):
    """Whether a program has neither a fault nor a clash chain."""
    check_program(program)
    survey = Survey(program)
    return found_faults(program, survey) == [] and Slots(survey).clash_chain() is None


def clash_chain(program):
    """A clash chain with the fewest slots; None if there is none."""
    return Slots(checked_survey(program)).clash_chain()


def is_clash_chain(program, value):
    """Whether any value is a clash chain of a program."""
    survey = checked_survey(program)
    if type(value) is not list or value == []:
        return False
    for slot in value:
        if not is_slot(slot):
            return False
    slots = Slots(survey)
    if value[0] not in slots.as_array or value[-1] not in slots.as_value:
        return False
    for slot, other in zip(value, value[1:]):
        if other not in slots.linked.get(slot, ()):
            return False
    return True


def is_slot(value):
    """Whether any value has the form of a slot."""
    return type(value) is tuple and len(value) == 2 and type(value[0]) is str and type(value[1]) is str


def tied(program):
    """The ascending list of the ascending lists of slots that are tied."""
    return Slots(checked_survey(program)).tied()


def sound_kinds(program):
    """A dict of the kinds of all slots of what surely is a program; raises UnsoundProgram, KindClash."""
    slots = Slots(surveyed(program))
    chain = slots.clash_chain()
    if chain is not None:
        raise KindClash(chain)
    return slots.kind_table()


def slot_kinds(program):
    """The ascending list of the tuples (slot, kind) of all slots."""
    check_program(program)
    table = sound_kinds(program)
    return [(slot, table[slot]) for slot in sorted(table)]


def scalars(program):
    """The ascending tuple of the names outside of parameters that are no arrays."""
    check_program(program)
    return scalars_of(sound_kinds(program))


def arrays(program):
    """The ascending tuple of the names outside of parameters that are arrays."""
    check_program(program)
    return arrays_of(sound_kinds(program))


def scalars_of(table):
    """The ascending tuple of the names outside of parameters that are no arrays, by the kinds of slots."""
    return tuple([slot[1] for slot in sorted(table) if slot[0] == "" and table[slot] != "array"])


def arrays_of(table):
    """The ascending tuple of the names outside of parameters that are arrays, by the kinds of slots."""
    return tuple([slot[1] for slot in sorted(table) if slot[0] == "" and table[slot] == "array"])


def parameter_kinds(program, function):
    """The tuple with "array" or "value" for each parameter of a function."""
    check_program(program)
    if not is_name(function):
        raise InvalidFunction("the value is no name")
    table = sound_kinds(program)
    for head in program[1]:
        if head[0] == function:
            return head_kinds(table, head)
    raise UnknownFunction("no function has this name")


def head_kinds(table, function):
    """The tuple with "array" or "value" for each parameter of a function, by the kinds of slots."""
    kinds = []
    for param in function[1]:
        if table[(function[0], param)] == "array":
            kinds.append("array")
        else:
            kinds.append("value")
    return tuple(kinds)
