"""All errors of the package, each directly under DeedError."""


class DeedError(ValueError):
    """What all errors of the package are."""


class InvalidSource(DeedError):
    """The source is no text."""


class InvalidWords(DeedError):
    """No source has these words."""


class InvalidProgram(DeedError):
    """The value is no program."""


class InvalidExpression(DeedError):
    """The value is no expression."""


class InvalidFunction(DeedError):
    """The value is no name of a function."""


class InvalidNames(DeedError):
    """The value is no list of pairs, or no tuple of names."""


class InvalidWorld(DeedError):
    """The value is no world."""


class InvalidCount(DeedError):
    """The value is no count."""


class InvalidIndex(DeedError):
    """The value is no index that may stand here."""


class InvalidCode(DeedError):
    """The value is no code."""


class InvalidHeld(DeedError):
    """The value is no held state that fits."""


class InvalidSpot(DeedError):
    """The value is no spot of the code."""


class InvalidKind(DeedError):
    """The value is none of the kinds."""


class InvalidRoot(DeedError):
    """The value is no root."""


class InvalidFormat(DeedError):
    """The value is no format."""


class InvalidPlace(DeedError):
    """The value is no place."""


class InvalidCommand(DeedError):
    """The value is no command."""


class TooLarge(DeedError):
    """Something is larger than the program takes."""


class UnsoundProgram(DeedError):
    """The program has a fault."""


class UnsoundCode(DeedError):
    """The code is not sound."""


class UnknownFunction(DeedError):
    """The program has no function of this name."""


class UnknownName(DeedError):
    """Nothing has this name."""


class NotFitting(DeedError):
    """The arguments do not fit each other."""


class Whole(DeedError):
    """Nothing is left to take."""


class Refused(DeedError):
    """What was asked for is refused."""


class NothingToUndo(DeedError):
    """No deed is left that could be undone."""


class NoBlock(DeedError):
    """There is no such block."""


class NotReady(DeedError):
    """The moment for this has not come."""


class InvalidWord(DeedError):
    """No word begins at this index."""

    def __init__(self, index):
        DeedError.__init__(self, "no word begins at this index")
        self.index = index


class NoProgram(DeedError):
    """Only so many words begin those of a program."""

    def __init__(self, number):
        DeedError.__init__(self, "these are not the words of a program")
        self.number = number


class KindClash(DeedError):
    """A name is an array and a value; the chain of slots shows it."""

    def __init__(self, chain):
        DeedError.__init__(self, "a name is an array and a value")
        self.chain = chain


class NoPattern(DeedError):
    """The text is no pattern, from this index on."""

    def __init__(self, index):
        DeedError.__init__(self, "the text is no pattern")
        self.index = index


class InvalidText(DeedError):
    """The text at this index is no text."""

    def __init__(self, index):
        DeedError.__init__(self, "one of the texts is none")
        self.index = index


class Written(DeedError):
    """Something is written at this tick."""

    def __init__(self, tick):
        DeedError.__init__(self, "something is written at a tick")
        self.tick = tick


class InvalidDeeds(DeedError):
    """The deed at this index may not stand there."""

    def __init__(self, index):
        DeedError.__init__(self, "one of the deeds may not stand there")
        self.index = index


class RunError(DeedError):
    """The error that ends a run, told by its word."""

    def __init__(self, word):
        DeedError.__init__(self, "the run ended with an error")
        self.word = word
