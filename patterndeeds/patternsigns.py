"""The 96 signs as bits of a mask, and how signs are quoted in pattern texts."""

# All signs, ascending; the percent sign is none.
SIGNS = "\t\n !\"#$&'()*+,-./0123456789:;<=>?@ABCDEFGHIJKLMNOPQRSTUVWXYZ[\\]^_`abcdefghijklmnopqrstuvwxyz{|}~"
ALL = (1 << 96) - 1
QUOTED = {"n": "\n", "t": "\t"}


def bit_of(sign):
    """The bit of a sign."""
    return 1 << SIGNS.index(sign)


def range_mask(first, last):
    """The mask of the signs from the first to the last one."""
    return (bit_of(last) << 1) - bit_of(first)


def signs_of(mask):
    """The ascending string of the signs of a mask."""
    return "".join([sign for at, sign in enumerate(SIGNS) if mask >> at & 1])


def meant_by(sign):
    """The sign that a backslash and a sign stand for, empty if they stand for none."""
    if sign in QUOTED:
        return QUOTED[sign]
    if sign.isalnum():
        return ""
    return sign


def quoted(sign):
    """A sign with a backslash ahead; empty if it cannot have one."""
    if sign == "\n":
        return "\\n"
    if sign == "\t":
        return "\\t"
    if sign.isalnum():
        return ""
    return "\\" + sign
