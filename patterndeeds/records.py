"""Records: how texts are parted into fields, and inputs into records."""

from patterndeeds.errors import RunError
from patterndeeds.keeping import unkept_list
from patterndeeds.parting import Parter, Taker
from patterndeeds.patterns import read_or_none
from patterndeeds.values import MOST_SIGNS, UNSET, integer_part

MOST_FIELDS = 4001


def field_separator(text):
    """The separator of fields that a text tells."""
    if text == " ":
        return ("blanks",)
    if text == "":
        return ("each",)
    return long_separator(text)


def record_separator(text):
    """The separator of records that a text tells."""
    if text == "":
        return ("paragraphs",)
    return long_separator(text)


def long_separator(text):
    """The separator that a text of one sign or more tells."""
    if len(text) == 1:
        return ("sign", text)
    pattern = read_or_none(text)
    if pattern is None:
        raise RunError("pattern")
    return ("pattern", pattern)


def parted(text, separator, paragraphs=False):
    """The list of the fields of a text."""
    return Parter(separator, paragraphs).fields(text)


def gaps(text, separator, paragraphs=False):
    """The list of the stretches that the fields of a text leave."""
    return Parter(separator, paragraphs).gaps(text)


def joined(fields, joint):
    """The fields with the joint between."""
    if sum([len(field) for field in fields]) + len(joint) * (len(fields) - 1) > MOST_SIGNS:
        raise RunError("long")
    return joint.join(fields)


def unkept(pattern, joint, separator):
    """None if each list of texts that a pattern takes whole is kept; else a list that is not."""
    return unkept_list(pattern, joint, separator)


def record_of(text, field_text, record_text):
    """The record of a text, parted as the texts of FS and RS tell."""
    parter = Parter(field_separator(field_text), record_text == "")
    return text, tuple(parter.fields(text))


def field_number(one):
    """The number of a field that a value tells."""
    number = integer_part(one)
    if not 0 <= number <= MOST_FIELDS:
        raise RunError("field")
    return number


def field_value(record, number):
    """The value of a field of a record, that of its text for 0."""
    text, fields = record
    if number == 0:
        return ("seen", text)
    if number > len(fields):
        return UNSET
    return ("seen", fields[number - 1])


def with_field(record, number, text, joint):
    """The record with another text as its field with this number."""
    fields = list(record[1])
    fields.extend([""] * (number - len(fields)))
    fields[number - 1] = text
    return joined(fields, joint), tuple(fields)


def with_count(record, number, joint):
    """The record with so many fields."""
    fields = list(record[1][:number])
    fields.extend([""] * (number - len(fields)))
    return joined(fields, joint), tuple(fields)


def next_record(text, at, whole, separator):
    """What comes next of an input behind its first signs."""
    return Taker(separator).next_record(text, at, whole)


def record_texts(text, separator):
    """The list of the texts of all records of an input that is told to its end."""
    taker = Taker(separator)
    texts = []
    taking = taker.next_record(text, 0, True)
    while taking[0] == "record":
        texts.append(taking[1])
        taking = taker.next_record(text, taking[2], True)
    return texts


def unsettled(text, separator):
    """None if a text, as a rest, is settled; else two texts that lead to unlike first takings."""
    return Taker(separator).unsettled(text)
