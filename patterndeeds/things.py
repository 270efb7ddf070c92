"""Things: integers, truths, None, texts and tuples of things, written as texts and read again."""

from patterndeeds.errors import InvalidText

MOST_DEEP = 12
# An integer that is nearer to 0 has fewer than 90 digits, so that one more may stand behind them.
FIRST_FULL = 10 ** 64 * 10 ** 25
# What stands behind a backslash in a text, and the sign that is meant.
QUOTED = {"\"": "\"", "\\": "\\", "n": "\n", "t": "\t"}
WORTH_SIGNS = {True: "T", False: "F", None: "N"}
# Where reading stands: a thing has to come; a thing or the end of the tuple; a thing is there, which
# may be an integer that goes on, from 0 on or below 0; a digit has to come behind a minus.
NEEDED = 0
OPENED = 1
THERE = 2
COUNTED = 3
BELOW = 4
MINUS = 5
DIGITS = {"0": 0, "1": 1, "2": 2, "3": 3, "4": 4, "5": 5, "6": 6, "7": 7, "8": 8, "9": 9}
# What a sign stands for that begins a thing, and where reading stands behind it.
BEGINNINGS = {
    "T": (True, THERE), "F": (False, THERE), "N": (None, THERE), "0": (0, THERE), "1": (1, COUNTED),
    "2": (2, COUNTED), "3": (3, COUNTED), "4": (4, COUNTED), "5": (5, COUNTED), "6": (6, COUNTED),
    "7": (7, COUNTED), "8": (8, COUNTED), "9": (9, COUNTED),
}


def text_of_tuple(things):
    """The text of a tuple of things."""
    parts = []
    for thing in things:
        if type(thing) is str:
            # Words, which most texts are, have no sign that needs a backslash.
            parts.append(f'"{thing}"' if thing.isalnum() else quoted(thing))
        elif type(thing) is tuple:
            parts.append(text_of_tuple(thing) if thing else "()")
        elif type(thing) is int:
            parts.append(str(thing))
        else:
            parts.append(WORTH_SIGNS[thing])
    return "(" + ",".join(parts) + ")"


def quoted(text):
    """A text as it is written between quotes."""
    text = text.replace("\\", "\\\\").replace("\"", "\\\"").replace("\n", "\\n").replace("\t", "\\t")
    return "\"" + text + "\""


def tuple_of_text(text):
    """The tuple with this text; InvalidText if there is none."""
    # A newline and a tab can stand nowhere, so that what is ahead of the first one tells all.
    limit = len(text.partition("\n")[0].partition("\t")[0])
    if text[:1] != "(":
        raise InvalidText(0)
    found = ThingReader(text[:limit]).whole_tuple()
    if limit < len(text):
        raise InvalidText(limit)
    return found


class ThingReader:
    """Reads the text of a tuple from the left.

    pieces has what is ahead of, between and behind its quotes: every other piece is a text as it is
    written, inside has these. skeleton is the text with one quote for each of them. Where a sign cannot
    stand, InvalidText tells its index. A text that ends too early begins some text of a tuple, so that
    its length is told then.
    """

    def __init__(self, text):
        self.many = len(text)
        self.pieces = pieces_of(text)
        self.inside = self.pieces[1::2]
        skeleton = "\"".join(self.pieces[::2])
        if len(self.pieces) & 1 == 0:
            skeleton = skeleton + "\""
        self.skeleton = cut_at_minus(skeleton)

    def whole_tuple(self):
        """The tuple that is all of the text."""
        outer = []
        things = []
        state = NEEDED
        texts = 0
        signs = iter(self.skeleton)
        for sign in signs:
            if sign == "," and state >= THERE:
                state = NEEDED
            elif sign == "(" and state <= OPENED and len(outer) < MOST_DEEP:
                outer.append(things)
                things = []
                state = OPENED
            elif sign == ")" and state >= OPENED:
                thing = tuple(things)
                things = outer.pop()
                things.append(thing)
                state = THERE
                if not outer:
                    break
            elif sign == "\"" and state <= OPENED:
                written = self.inside[texts]
                things.append(self.unquoted(texts) if "\\" in written else written)
                texts += 1
                state = THERE
            elif sign in BEGINNINGS and state <= OPENED:
                thing, state = BEGINNINGS[sign]
                things.append(thing)
            elif sign == "-" and state <= OPENED:
                state = MINUS
            elif sign in DIGITS and state >= COUNTED:
                state = state_behind_digit(things, state, DIGITS[sign])
            else:
                break
        else:
            raise InvalidText(self.index_of(len(self.skeleton)))
        return self.only_thing(things, outer, len(list(signs)))

    def only_thing(self, things, outer, rest):
        """The tuple that has come to its end if none is open, when so many signs are left."""
        behind = len(self.skeleton) - rest
        if outer:
            raise InvalidText(self.index_of(behind - 1))
        if rest > 0:
            raise InvalidText(self.index_of(behind))
        return things[0]

    def index_of(self, at):
        """The index in the text of what has an index in the skeleton."""
        texts = self.skeleton[:at].count("\"")
        # The last text may lack its second quote.
        return min(at + sum([len(written) + 1 for written in self.inside[:texts]]), self.many)

    def unquoted(self, number):
        """A text, of which some signs are written with a backslash."""
        written = self.inside[number]
        parts = []
        at = 0
        slash = written.find("\\")
        while slash >= 0:
            sign = written[slash + 1:slash + 2]
            if sign not in QUOTED:
                ahead = sum([len(piece) + 1 for piece in self.pieces[:2 * number + 1]])
                raise InvalidText(ahead + slash + 1)
            parts.append(written[at:slash] + QUOTED[sign])
            at = slash + 2
            slash = written.find("\\", at)
        return "".join(parts) + written[at:]


def state_behind_digit(things, state, digit):
    """Puts a digit behind an integer or a minus, and tells where reading stands then."""
    if state == MINUS:
        things.append(-digit)
        return BELOW
    if state == BELOW:
        digit = -digit
    things[-1] = 10 * things[-1] + digit
    return state if abs(things[-1]) < FIRST_FULL else THERE


def cut_at_minus(skeleton):
    """A skeleton up to the first minus behind which no digit from 1 to 9 stands."""
    at = skeleton.find("-")
    while at >= 0:
        digit = skeleton[at + 1:at + 2]
        if digit == "0" or digit not in DIGITS:
            return skeleton[:at + 1]
        at = skeleton.find("-", at + 1)
    return skeleton


def pieces_of(text):
    """The pieces of a text ahead of, between and behind the quotes that no backslash quotes."""
    if "\\\"" not in text:
        return text.split("\"")
    pieces = []
    parts = []
    for part in text.split("\""):
        parts.append(part)
        # Outside of a text no backslash can stand at all, so that it does not matter how it is parted there.
        backslashes = len(part) - len(part.rstrip("\\"))
        if backslashes & 1 == 0:
            pieces.append("\"".join(parts))
            parts = []
    if parts:
        pieces.append("\"".join(parts))
    return pieces
