"""Words: what a source is read as, and how words are written again."""

from patterndeeds.errors import InvalidSource, InvalidWords
from patterndeeds.lexer import closes, read_words
from patterndeeds.signs import (
    BUILTS, DOUBLES, KEYS, SINGLES, goes_on, is_name, is_number_text, is_pattern_text, is_text,
)

MOST_OPEN = 30
MOST_IN_A_ROW = 150
MOST_HEADS = 60
OPENING = {"(": True, "[": True, "{": True, "?": True}
CLOSING = {")": True, "]": True, "}": True, ":": True}
PARTING = {";": True, "{": True, "}": True}
HEADS = {"if": True, "while": True, "do": True, "for": True}
WORD_LIKE = {"name": True, "key": True, "built": True}


def words_of(source):
    """The list of the words of a source."""
    if not is_text(source):
        raise InvalidSource("the source is no text")
    return [row[0] for row in read_words(source)]


def spots_of(source):
    """The list of the stretches of the words of a source."""
    if not is_text(source):
        raise InvalidSource("the source is no text")
    return [(row[1], row[2]) for row in read_words(source)]


def is_word(value):
    """Whether any value is a word."""
    if type(value) is not tuple or len(value) != 2:
        return False
    kind, text = value
    if type(kind) is not str or type(text) is not str:
        return False
    if kind == "key":
        return text in KEYS
    if kind == "built":
        return text in BUILTS
    if kind == "name" or kind == "call":
        return is_name(text)
    if kind == "number":
        return is_number_text(text)
    if kind == "text":
        return is_text(text)
    if kind == "pattern":
        return is_pattern_text(text)
    if kind == "symbol":
        return text in SINGLES or text in DOUBLES
    return value == ("line", "\n")


def may_follow(before, word):
    """Whether a word may stand behind another one; None stands for the beginning."""
    kind, text = word
    if before is not None and before[0] == "call":
        return word == ("symbol", "(")
    closed = before is not None and closes(before)
    if kind == "pattern":
        return not closed
    if kind == "symbol" and (text == "/" or text == "/="):
        return closed
    return True


def are_words(value):
    """Whether any value is a list of words that some source has."""
    if type(value) is not list:
        return False
    before = None
    for word in value:
        if not is_word(word) or not may_follow(before, word):
            return False
        before = word
    return before is None or before[0] != "call"


def too_large(words):
    """Whether words are too large to be read."""
    if not are_words(words):
        raise InvalidWords("no source has these words")
    return are_too_large(words)


def are_too_large(words):
    """Whether words that a source has are too large."""
    opened = 0
    row = 0
    heads = 0
    for kind, text in words:
        row += 1
        if kind == "line":
            row = 0
        elif kind == "key" and text in HEADS and opened > 0:
            heads += 1
        elif kind == "symbol":
            if text in PARTING:
                row = 0
            opened = open_behind(opened, text)
            if opened == 0:
                heads = 0
        if opened > MOST_OPEN or row > MOST_IN_A_ROW or heads > MOST_HEADS:
            return True
    return False


def open_behind(opened, symbol):
    """How many brackets are open behind a symbol."""
    if symbol in OPENING:
        return opened + 1
    if symbol in CLOSING and opened > 0:
        return opened - 1
    return opened


def written(word):
    """How a word is written in a source."""
    kind, text = word
    if kind == "text":
        plain = text.replace("\\", "\\\\").replace("\"", "\\\"").replace("\n", "\\n")
        return "\"" + plain + "\""
    if kind == "pattern":
        return "/" + text.replace("/", "\\/") + "/"
    return text


def source_of(words):
    """The words with one blank between neighbours, none beside a newline or behind a call."""
    if not are_words(words):
        raise InvalidWords("no source has these words")
    parts = []
    before = None
    for word in words:
        if before is not None and before[0] != "call" and before[0] != "line" and word[0] != "line":
            parts.append(" ")
        parts.append(written(word))
        before = word
    return "".join(parts)


def shortest_source(words):
    """The shortest source with these words."""
    if not are_words(words):
        raise InvalidWords("no source has these words")
    parts = []
    before = None
    for word in words:
        if before is not None and wants_blank(before, written(word)[0]):
            parts.append(" ")
        parts.append(written(word))
        before = word
    return "".join(parts)


def wants_blank(before, char):
    """Whether a blank has to part a word from what begins with this sign."""
    kind, text = before
    if kind == "number":
        return goes_on(char) or char == "."
    if kind in WORD_LIKE:
        return goes_on(char) or kind == "name" and char == "("
    return kind == "symbol" and text + char in DOUBLES
