"""What signs, texts and names are, and the tables of the words."""

KEYS = {
    "BEGIN": True, "END": True, "function": True, "if": True, "else": True, "while": True, "do": True,
    "for": True, "in": True, "break": True, "continue": True, "next": True, "exit": True, "return": True,
    "delete": True, "print": True, "printf": True, "getline": True,
}
BUILTS = {
    "length": True, "index": True, "substr": True, "split": True, "sub": True, "gsub": True, "match": True,
    "sprintf": True, "tolower": True, "toupper": True, "int": True, "close": True,
}
DOUBLES = {
    "++": True, "--": True, "+=": True, "-=": True, "*=": True, "/=": True, "@=": True, "^=": True, "==": True,
    "!=": True, "<=": True, ">=": True, "!~": True, "&&": True, "||": True, ">>": True,
}
SINGLES = {
    "{": True, "}": True, "(": True, ")": True, "[": True, "]": True, ";": True, ",": True, "+": True, "-": True,
    "*": True, "/": True, "@": True, "^": True, "!": True, "<": True, ">": True, "|": True, "?": True, ":": True,
    "~": True, "$": True, "=": True,
}
MOST_DIGITS = 60
SPECIALS = {
    "FILENAME": True, "FNR": True, "FS": True, "NF": True, "NR": True, "OFS": True, "ORS": True,
    "RLENGTH": True, "RS": True, "RSTART": True, "SUBSEP": True,
}
# The codes of all signs. A text is what is empty without them.
SIGN_CODES = {
    9: None, 10: None, 32: None, 33: None, 34: None, 35: None, 36: None, 38: None, 39: None, 40: None, 41: None,
    42: None, 43: None, 44: None, 45: None, 46: None, 47: None, 48: None, 49: None, 50: None, 51: None, 52: None,
    53: None, 54: None, 55: None, 56: None, 57: None, 58: None, 59: None, 60: None, 61: None, 62: None, 63: None,
    64: None, 65: None, 66: None, 67: None, 68: None, 69: None, 70: None, 71: None, 72: None, 73: None, 74: None,
    75: None, 76: None, 77: None, 78: None, 79: None, 80: None, 81: None, 82: None, 83: None, 84: None, 85: None,
    86: None, 87: None, 88: None, 89: None, 90: None, 91: None, 92: None, 93: None, 94: None, 95: None, 96: None,
    97: None, 98: None, 99: None, 100: None, 101: None, 102: None, 103: None, 104: None, 105: None, 106: None,
    107: None, 108: None, 109: None, 110: None, 111: None, 112: None, 113: None, 114: None, 115: None, 116: None,
    117: None, 118: None, 119: None, 120: None, 121: None, 122: None, 123: None, 124: None, 125: None, 126: None,
}


def is_text(value):
    """Whether any value is a text: a string of signs."""
    return type(value) is str and value.translate(SIGN_CODES) == ""


def begins_name(char):
    """Whether a name may begin with a character."""
    return char.isascii() and (char.isalpha() or char == "_")


def goes_on(char):
    """Whether a character may stand in a name behind its beginning."""
    return char.isascii() and (char.isalnum() or char == "_")


def is_digit(char):
    """Whether a character is one of the ten digits."""
    return char.isascii() and char.isdigit()


def is_name(value):
    """Whether any value is a name: no key and no built-in word."""
    if type(value) is not str or not value.isascii() or not value.isidentifier():
        return False
    return value not in KEYS and value not in BUILTS


def is_special(name):
    """Whether a name is one of the special ones."""
    return name in SPECIALS


def is_pattern_text(value):
    """Whether any value is the text that a pattern word can have."""
    if not is_text(value) or "\n" in value:
        return False
    if "\\" not in value:
        return True
    at = 0
    while at < len(value):
        if value[at] == "\\":
            if at + 1 == len(value) or value[at + 1] == "/":
                return False
            at += 1
        at += 1
    return True


def is_number_text(value):
    """Whether any value is the text of a number: 1 to 60 digits, perhaps with one point."""
    if type(value) is not str or value.count(".") > 1:
        return False
    digits = value.replace(".", "")
    return digits.isascii() and digits.isdigit() and len(digits) <= MOST_DIGITS
