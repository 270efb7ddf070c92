"""Pattern texts by regular expressions: what the document says of them, worked out in another way."""

import re

from slowpatterns import SIGNS

QUOTED = r"\\(?:n|t|[^A-Za-z0-9])"
ENTRY = r"(?:%s|[^\]\\-])" % QUOTED
RANGE = r"%s-%s" % (ENTRY, ENTRY)
CLASS = re.compile(r"\[(\^?)(-?)((?:%s|%s)*)(-?)\]" % (RANGE, ENTRY), re.S)
ENTRIES = re.compile("(%s)-(%s)|(%s)" % (ENTRY, ENTRY, ENTRY), re.S)
NUMBER = r"(?:0|[1-9][0-9]?)"
REPEAT = re.compile(r"[*+?]|\{(%s)(?:(,)(%s)?)?\}" % (NUMBER, NUMBER))
ITEM = re.compile(r"%s|[^()\[\\|*+?{]" % QUOTED, re.S)


def meant(sign):
    if sign[0] == "\\" and len(sign) == 2:
        return {"n": "\n", "t": "\t"}.get(sign[1], sign[1])
    return sign


def class_signs(match):
    """The signs of what looks like a class; None if it is none."""
    negated, first, body, last = match.groups()
    if not first + body + last:
        return None
    signs = set(first + last)
    for low, high, single in ENTRIES.findall(body):
        if single:
            signs.add(meant(single))
        elif meant(low) > meant(high):
            return None
        else:
            signs.update(sign for sign in SIGNS if meant(low) <= sign <= meant(high))
    if negated:
        signs = set(SIGNS) - signs
    return "".join(sorted(signs)) or None


def flattened(tag, rows):
    parts = []
    for row in rows:
        parts.extend(row[1] if row[0] == tag else [row])
    return parts[0] if len(parts) == 1 else (tag, tuple(parts))


def read(text):
    """The pattern of a pattern text of any size; None if it is none."""
    found = branches(text, 0, 0)
    return found[0] if found is not None and found[1] == len(text) else None


def branches(text, at, nested):
    rows = []
    while True:
        pieces = []
        while at < len(text) and text[at] not in "|)":
            found = piece(text, at, nested)
            if found is None:
                return None
            pieces.append(found[0])
            at = found[1]
        rows.append(flattened("row", pieces))
        if text[at:at + 1] != "|":
            return flattened("or", rows), at
        at += 1


def piece(text, at, nested):
    if text[at] == "(":
        found = branches(text, at + 1, nested + 1) if nested < 12 else None
        if found is None or text[found[1]:found[1] + 1] != ")":
            return None
        item, at = found[0], found[1] + 1
    elif text[at] == "[":
        match = CLASS.match(text, at)
        signs = class_signs(match) if match else None
        if signs is None:
            return None
        item, at = ("class", signs), match.end()
    else:
        match = ITEM.match(text, at)
        if not match:
            return None
        plain = {".": ("any",), "^": ("begin",), "$": ("end",)}
        item, at = plain.get(match.group(), ("sign", meant(match.group()))), match.end()
    match = REPEAT.match(text, at)
    if not match:
        return item, at
    simple = {"*": (0, None), "+": (1, None), "?": (0, 1)}
    if match.group() in simple:
        least, most = simple[match.group()]
    else:
        least = int(match.group(1))
        most = (int(match.group(3)) if match.group(3) else None) if match.group(2) else least
        if least > 30 or most is not None and not least <= most <= 30:
            return None
    return ("repeat", item, least, most), match.end()


HEADS = ["", "]", "a]", "n]", ".", "0}", "}"] + ["%d}" % one for one in range(31)] + [sign + "]" for sign in SIGNS]


def goes_on(text):
    """Whether some pattern text begins with a text, as far as the endings that are tried tell."""
    return any(read(text + head + ")" * many) is not None for many in range(13) for head in HEADS)


def greatest(text):
    """The greatest number of first signs of a text with which some pattern text begins."""
    return max(number for number in range(len(text) + 1) if goes_on(text[:number]))
