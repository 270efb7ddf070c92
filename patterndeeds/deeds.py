"""Deeds: what changes a run besides its names and its stack."""

from patterndeeds.records import field_number, joined, with_count, with_field
from patterndeeds.runs import Output
from patterndeeds.values import ONE, ZERO, operated, text_of


class Waiting(Exception):
    """The run waits for more of an input."""


def set_scalar(run, name, value):
    """Sets a scalar."""
    if name != "NF":
        run.scalars[name] = value
        return
    number = field_number(value)
    run.record = with_count(run.record, number, run.special("OFS"))
    run.scalars["NF"] = ("number", number, 1)


def set_field(run, index, value):
    """Sets a field, or the record for the index 0."""
    number = field_number(index)
    if number == 0:
        set_record(run, record_from(run, text_of(value)))
    else:
        set_record(run, with_field(run.record, number, text_of(value), run.special("OFS")))


def record_from(run, text):
    """The record of a text, parted as FS and RS tell."""
    parter = run.parter_of(run.special("FS"), run.special("RS") == "")
    return text, tuple(parter.fields(text))


def set_record(run, record):
    """Sets the record and the number of its fields."""
    run.record = record
    run.scalars["NF"] = ("number", len(record[1]), 1)


def key_of(run, values):
    """The key that some values make."""
    return joined([text_of(value) for value in values], run.special("SUBSEP"))


def write_out(run, kind, name, text):
    """Writes a text to an output."""
    key = (kind, name)
    if kind == ">>":
        key = (">", name)
    if key not in run.outputs:
        run.outputs[key] = Output(key[0], name, "", True)
    output = run.outputs[key]
    if not output.is_open:
        output.is_open = True
        if kind != ">>":
            output.parts = []
    output.parts.append(text)
    run.happened.append(("write", kind, name, text))


def take_main(run, into_record):
    """Takes a main record, perhaps into the record; its text, None if there is none."""
    taker = run.taker_now()
    index, at = run.index, run.signs_taken
    taking = ("none",)
    if index >= 0:
        taking = taker.next_record(run.mains[index][1], at, run.mains[index][2])
    while taking[0] == "none" and index + 1 < len(run.mains):
        index += 1
        at = 0
        taking = taker.next_record(run.mains[index][1], 0, run.mains[index][2])
    if taking[0] == "more":
        raise Waiting("more of the input has to be told")
    if taking[0] == "none":
        go_on_to(run, index, at)
        return None
    text = taking[1]
    record = run.record
    if into_record:
        record = record_from(run, text)
    number = run.scalars["FNR"]
    if index != run.index:
        number = ZERO
    number = operated("+", number, ONE)
    total = operated("+", run.scalars["NR"], ONE)
    go_on_to(run, index, taking[2])
    run.scalars["FNR"] = number
    run.scalars["NR"] = total
    if into_record:
        set_record(run, record)
    run.happened.append(("read", "main", run.mains[index][0], text))
    return text


def go_on_to(run, index, at):
    """Lets so many signs of the main file with this index be taken."""
    if index != run.index:
        run.scalars["FILENAME"] = ("text", run.mains[index][0])
        run.scalars["FNR"] = ZERO
    run.index = index
    run.signs_taken = at


def take_aside(run, kind, name, into_record):
    """Takes a record of an aside; its text, None if there is none."""
    taker = run.taker_now()
    key = (kind, name)
    at = run.readers.get(key, 0)
    taking = taker.next_record(run.asides[key][0], at, run.asides[key][1])
    if taking[0] == "more":
        raise Waiting("more of the input has to be told")
    if taking[0] == "none":
        run.readers[key] = at
        return None
    text = taking[1]
    record = run.record
    if into_record:
        record = record_from(run, text)
    if kind == "|":
        run.scalars["NR"] = operated("+", run.scalars["NR"], ONE)
    run.readers[key] = taking[2]
    if into_record:
        set_record(run, record)
    run.happened.append(("read", kind, name, text))
    return text


def close_name(run, name):
    """Closes all of this name; whether something was closed."""
    closed = False
    for kind in ("<", "|"):
        if (kind, name) in run.readers:
            del run.readers[(kind, name)]
            closed = True
    for kind in (">", "|"):
        output = run.outputs.get((kind, name))
        if output is not None and output.is_open:
            output.is_open = False
            closed = True
    run.happened.append(("close", name))
    return closed
