"""What the document says of patterns, worked out by trying all ways of cutting."""

SIGNS = [chr(code) for code in [9, 10] + list(range(32, 127)) if chr(code) != "%"]


def ends(pattern, text, start):
    """The set of the ends of the stretches that start here and are taken."""
    tag = pattern[0]
    if tag == "sign" or tag == "class":
        return {start + 1} if start < len(text) and text[start] in list(pattern[1]) else set()
    if tag == "any":
        return {start + 1} if start < len(text) else set()
    if tag == "begin":
        return {start} if start == 0 else set()
    if tag == "end":
        return {start} if start == len(text) else set()
    if tag == "or":
        return set().union(*[ends(part, text, start) for part in pattern[1]])
    if tag == "row":
        return row_ends(pattern[1], text, start)
    _, part, least, most = pattern
    found, now, seen = set(), {start}, []
    number = 0
    while (most is None or number <= most) and now and now not in seen:
        if number >= least:
            found |= now
            seen.append(now)
        now = set().union(*[ends(part, text, at) for at in now])
        number += 1
    return found


def row_ends(parts, text, start):
    if not parts:
        return {start}
    return set().union(*[row_ends(parts[1:], text, at) for at in ends(parts[0], text, start)])


def takes(pattern, text, start, end):
    return end in ends(pattern, text, start)


def holds(pattern, text):
    return any(ends(pattern, text, start) for start in range(len(text) + 1))


def longest(pattern, text, start):
    return max(ends(pattern, text, start), default=None)


def found(pattern, text, start=0):
    for at in range(start, len(text) + 1):
        if ends(pattern, text, at):
            return (at, longest(pattern, text, at))
    return None


def told(pattern, text, empties):
    rows = []
    for at in range(len(text) + 1):
        if any(start <= at < end for start, end in rows):
            continue
        if empties:
            end = longest(pattern, text, at)
            if end is None or end == at and any(row[1] == at for row in rows):
                continue
        else:
            end = longest(pattern, text, at)
            if end is None or end == at:
                continue
        rows.append((at, end))
    return rows


def stretches(pattern, text):
    return told(pattern, text, True)


def cuts(pattern, text):
    return told(pattern, text, False)


def whole(pattern, text):
    return takes(pattern, text, 0, len(text))


def put_in(new, taken):
    made = ""
    while new:
        if new[0] == "&":
            made, new = made + taken, new[1:]
        elif new[:2] == "\\&":
            made, new = made + "&", new[2:]
        elif new[:2] == "\\\\":
            made, new = made + "\\", new[2:]
        else:
            made, new = made + new[0], new[1:]
    return made


def replaced(pattern, new, text, every):
    rows = stretches(pattern, text)
    if not every:
        rows = [row for row in [found(pattern, text)] if row is not None]
    made = text
    for start, end in rows[::-1]:
        made = made[:start] + put_in(new, text[start:end]) + made[end:]
    return made, len(rows)


class Patterns:
    """A maker of random patterns over a few signs."""

    def __init__(self, random, signs="ab", anchors=True, most=3):
        self.random = random
        self.signs = signs
        self.anchors = anchors
        self.most = most

    def leaf(self):
        pick = self.random.choice
        tags = ["sign"] * 5 + ["any", "class", "row"]
        if self.anchors:
            tags += ["begin", "end"]
        tag = pick(tags)
        if tag == "sign":
            return (tag, pick(self.signs))
        if tag == "class":
            some = sorted(self.random.sample(self.signs, self.random.randrange(1, len(self.signs) + 1)))
            return (tag, "".join(some))
        return (tag, ()) if tag == "row" else (tag,)

    def pattern(self, size, barred=""):
        """A random pattern of about this size, without this tag at its top."""
        tag = self.random.choice(["leaf", "row", "row", "or", "repeat"])
        if size <= 1 or tag == "leaf" or tag == barred:
            leaf = self.leaf()
            return leaf if leaf[0] != barred else ("any",)
        if tag == "repeat":
            least = self.random.randrange(self.most)
            most = self.random.choice([None, least, least + 1, least + 2])
            return (tag, self.pattern(max(1, size // max(1, most or least)), ""), least, most)
        cut = self.random.randrange(1, size)
        parts = [self.pattern(cut, tag), self.pattern(size - cut, tag)]
        if self.random.random() < 0.2:
            parts.append(self.pattern(1, tag))
        return (tag, tuple(parts))
