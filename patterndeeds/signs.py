"""What signs, texts and names are, and the tables of the words."""

KEYS = {
    "BEGIN": True, "END": True, "function": True, "if": True, "else": True, "while": True, "do": True,
    "for": True, "in": True, "break": True, "continue": True, "next": True, "exit": True, "return": True,
    "delete": True, "print": True, "printf": True, "getline": True,
}
BUILTS = {
    "length": True, "index": True, "substr": True, "split": True, "sub": True, "gsub": True, "match": True,
    "sprintf": True, "tolower": True, "toupper": True, "int": True, "close": True,
}
DOUBLES = {
    "++": True, "--": True, "+=": True, "-=": True, "*=": True, "/=": True, "@=": True, "^=": True, "==": True,
    "!=": True, "<=": True, ">=": True, "!~": True, "&&": True, "||": True, ">>": True,
}
SINGLES = {
    "{": True, "}": True, "(": True, ")": True, "[": True, "]": True, ";": True, ",": True, "+": True, "-": True,
    "*": True, "/": True, "@": True, "^": True, "!": True, "<": True, ">": True, "|": True, "?": True, ":": True,
    "~": True, "$": True, "=": True,
}
MOST_DIGITS = 60
SPECIALS = {
    "FILENAME": True, "FNR": True, "FS": True, "NF": True, "NR": True, "OFS": True, "ORS": True,
    "RLENGTH": True, "RS": True, "RSTART": True, "SUBSEP": True,
}


def is_text(value):
    """Whether any value is a text: a string of signs."""
    if type(value) is not str or not value.isascii():
        return False
    # 37 is the code of the percent sign, which is the one printable character that is no sign.
    if len(value.translate({37: None})) < len(value):
        return False
    return value.replace("\t", "").replace("\n", "").isprintable()


def begins_name(char):
    """Whether a name may begin with a character."""
    return char.isascii() and (char.isalpha() or char == "_")


def goes_on(char):
    """Whether a character may stand in a name behind its beginning."""
    return char.isascii() and (char.isalnum() or char == "_")


def is_digit(char):
    """Whether a character is one of the ten digits."""
    return char.isascii() and char.isdigit()


def is_name(value):
    """Whether any value is a name: no key and no built-in word."""
    if type(value) is not str or not value.isascii() or not value.isidentifier():
        return False
    return value not in KEYS and value not in BUILTS


def is_special(name):
    """Whether a name is one of the special ones."""
    return name in SPECIALS


def is_pattern_text(value):
    """Whether any value is the text that a pattern word can have."""
    if not is_text(value) or "\n" in value:
        return False
    if "\\" not in value:
        return True
    at = 0
    while at < len(value):
        if value[at] == "\\":
            if at + 1 == len(value) or value[at + 1] == "/":
                return False
            at += 1
        at += 1
    return True


def is_number_text(value):
    """Whether any value is the text of a number: 1 to 60 digits, perhaps with one point."""
    if type(value) is not str or value.count(".") > 1:
        return False
    digits = value.replace(".", "")
    return digits.isascii() and digits.isdigit() and len(digits) <= MOST_DIGITS
