"""Reading a source: its words, each with its stretch."""

from patterndeeds.errors import InvalidWord
from patterndeeds.signs import BUILTS, DOUBLES, KEYS, MOST_DIGITS, SINGLES, begins_name, goes_on, is_digit

CLOSERS = {")": True, "]": True, "++": True, "--": True}
CLOSING_KINDS = {"name": True, "built": True, "number": True, "text": True, "pattern": True}
TEXT_MARKS = {"\\": "\\", "\"": "\"", "/": "/", "n": "\n", "t": "\t"}


def closes(word):
    """Whether a slash behind this word divides."""
    kind, text = word
    if kind == "symbol":
        return text in CLOSERS
    return kind in CLOSING_KINDS or word == ("key", "getline")


def sign_at(source, at):
    """The sign at an index, an empty string at the end."""
    return source[at:at + 1]


def read_words(source):
    """The list of tuples (word, start, end) of a text."""
    rows = []
    closed = False
    at = skip(source, 0)
    while at < len(source):
        word, end = read_word(source, at, closed)
        rows.append((word, at, end))
        closed = closes(word)
        at = skip(source, end)
    return rows


def skip(source, at):
    """The index of the first sign from an index on that belongs to a word."""
    while at < len(source):
        char = source[at]
        if char == " " or char == "\t":
            at += 1
        elif char == "\\" and sign_at(source, at + 1) == "\n":
            at += 2
        elif char == "#":
            at = end_of_remark(source, at)
        else:
            return at
    return at


def end_of_remark(source, at):
    """The index of the newline that ends a remark, or of the end."""
    end = source.find("\n", at)
    if end < 0:
        return len(source)
    return end


def read_word(source, at, closed):
    """A tuple (word, end) of the word that begins at an index."""
    char = source[at]
    if char == "\n":
        return ("line", "\n"), at + 1
    if begins_name(char):
        return read_name(source, at)
    if char == "." or is_digit(char):
        return read_number(source, at)
    if char == "\"":
        return read_text(source, at)
    if char == "/" and not closed:
        return read_pattern(source, at)
    return read_symbol(source, at)


def read_name(source, at):
    """The key, built-in word, call or name at an index, and its end."""
    end = at + 1
    while goes_on(sign_at(source, end)):
        end += 1
    text = source[at:end]
    if text in KEYS:
        return ("key", text), end
    if text in BUILTS:
        return ("built", text), end
    if sign_at(source, end) == "(":
        return ("call", text), end
    return ("name", text), end


def skip_digits(source, at):
    """The index behind the digits from an index on."""
    while is_digit(sign_at(source, at)):
        at += 1
    return at


def read_number(source, at):
    """The number at an index, and its end."""
    end = skip_digits(source, at)
    digits = end - at
    if sign_at(source, end) == ".":
        behind = skip_digits(source, end + 1)
        digits += behind - end - 1
        end = behind
    if digits < 1 or digits > MOST_DIGITS:
        raise InvalidWord(at)
    if goes_on(sign_at(source, end)) or sign_at(source, end) == ".":
        raise InvalidWord(at)
    return ("number", source[at:end]), end


def read_text(source, at):
    """The text at an index, and its end."""
    parts = []
    end = at + 1
    while sign_at(source, end) != "\"":
        char = sign_at(source, end)
        if char == "" or char == "\n":
            raise InvalidWord(at)
        if char == "\\":
            end += 1
            char = TEXT_MARKS.get(sign_at(source, end), "")
            if char == "":
                raise InvalidWord(at)
        parts.append(char)
        end += 1
    return ("text", "".join(parts)), end + 1


def read_pattern(source, at):
    """The pattern at an index, and its end."""
    parts = []
    end = at + 1
    while sign_at(source, end) != "/":
        char = sign_at(source, end)
        if char == "\\":
            end += 1
            char += sign_at(source, end)
            if char == "\\/":
                char = "/"
        if char == "" or char[-1] == "\n":
            raise InvalidWord(at)
        parts.append(char)
        end += 1
    return ("pattern", "".join(parts)), end + 1


def read_symbol(source, at):
    """The longest symbol at an index, and its end."""
    double = source[at:at + 2]
    if double in DOUBLES:
        return ("symbol", double), at + 2
    if double[0] in SINGLES:
        return ("symbol", double[0]), at + 1
    raise InvalidWord(at)
