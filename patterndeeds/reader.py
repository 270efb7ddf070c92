"""Going along the words of a source; what cannot go on there ends with NoProgram."""

from patterndeeds.errors import NoProgram

# Behind the last word this one is seen; no source has it.
END = ("", "")
BEGINNING_KINDS = {"name": True, "call": True, "built": True, "number": True, "text": True, "pattern": True}
BEGINNING_SYMBOLS = {"(": True, "$": True, "!": True, "-": True, "+": True, "++": True, "--": True}


def begins_expression(word):
    """Whether an expression may begin with a word."""
    kind, text = word
    if kind == "symbol":
        return text in BEGINNING_SYMBOLS
    return kind in BEGINNING_KINDS or word == ("key", "getline")


class Reader:
    """The words, how many of them are taken, and whether lines may stand among them."""

    def __init__(self, words, lined):
        self.words = words
        self.lined = lined
        self.at = 0

    def next_word(self):
        """The next word."""
        return self.ahead(0)

    def ahead(self, many):
        """The word behind so many others."""
        if self.at + many >= len(self.words):
            return END
        return self.words[self.at + many]

    def take(self):
        """The next word, which is then behind."""
        word = self.next_word()
        self.at += 1
        return word

    def sees(self, symbol):
        """Whether the next word is this symbol."""
        return self.next_word() == ("symbol", symbol)

    def demand(self, kind, text):
        """Takes the next word, which must be this one."""
        if self.next_word() != (kind, text):
            raise NoProgram(self.at)
        self.at += 1

    def demand_name(self):
        """Takes the next word, which must be a name, and returns it."""
        kind, text = self.next_word()
        if kind != "name":
            raise NoProgram(self.at)
        self.at += 1
        return text

    def skip_lines(self):
        """Passes over lines, where they may stand at all."""
        while self.lined and self.next_word()[0] == "line":
            self.at += 1

    def ends_row(self):
        """Whether the next word is a line or a semicolon."""
        return self.next_word()[0] == "line" or self.sees(";")

    def skip_seps(self):
        """Passes over lines and semicolons."""
        while self.ends_row():
            self.at += 1
