"""What the document says of separators, fields and records, worked out slowly."""

import slowpatterns


def fields(text, separator, paragraphs=False):
    return pieces(text, separator, paragraphs)[0]


def gaps(text, separator, paragraphs=False):
    return pieces(text, separator, paragraphs)[1]


def pieces(text, separator, paragraphs=False):
    """The fields and the gaps of a text."""
    kind = separator[0]
    if kind == "blanks":
        rows, at = [], 0
        while at < len(text):
            end = at
            while end < len(text) and (text[end] in " \t\n") == (text[at] in " \t\n"):
                end += 1
            rows.append((at, end))
            at = end
        blank = [row for row in rows if text[row[0]] in " \t\n"]
        return [text[start:end] for start, end in rows if (start, end) not in blank], blank
    if kind == "each":
        parts = [at for at, sign in enumerate(text) if paragraphs and sign == "\n"]
        return [sign for at, sign in enumerate(text) if at not in parts], [(at, at + 1) for at in parts]
    if kind == "sign":
        rows = [(at, at + 1) for at, sign in enumerate(text) if sign == separator[1] or paragraphs and sign == "\n"]
    else:
        pattern = separator[1]
        if paragraphs:
            parts = pattern[1] if pattern[0] == "or" else (pattern,)
            pattern = ("or", parts + (("sign", "\n"),))
        rows = slowpatterns.cuts(pattern, text)
    if text == "":
        return [], []
    edges = [0] + [at for row in rows for at in row] + [len(text)]
    return [text[edges[at]:edges[at + 1]] for at in range(0, len(edges), 2)], rows


def taking(rest, separator):
    """The first taking of a rest that is told to its end."""
    kind = separator[0]
    if kind == "paragraphs":
        ahead = 0
        while rest[ahead:ahead + 1] == "\n":
            ahead += 1
        body = rest[ahead:]
        if body == "":
            return None
        for at in range(len(body)):
            if body[at:at + 2] == "\n\n":
                return body[:at], ahead + at + 2
        return (body[:-1] if body[-1] == "\n" else body), len(rest)
    if rest == "":
        return None
    if kind == "sign":
        rows = [(at, at + 1) for at, sign in enumerate(rest) if sign == separator[1]]
    else:
        rows = slowpatterns.cuts(separator[1], rest)
    if rows:
        return rest[:rows[0][0]], rows[0][1]
    return rest, len(rest)


def is_kept(texts, joint, separator):
    joints, at = [], 0
    for text in texts[:-1]:
        joints.append((at + len(text), at + len(text) + len(joint)))
        at += len(text) + len(joint)
    found, rows = pieces(joint.join(texts), separator)
    return found == list(texts) and all(row in joints for row in rows)
