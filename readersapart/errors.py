"""The errors that the functions of this package raise."""


class ReaderError(ValueError):
    """The base class of all errors of this package."""


class BadPart(ReaderError):
    """A part of a reader that cannot be as it is told."""

    def __init__(self, part):
        super().__init__(f"a reader cannot have this as its part {part}")
        self.part = part


class BadReader(ReaderError):
    """A value that is no Reader."""


class BadReaders(ReaderError):
    """A value that is not 1 to 4 Readers; index is the first wrong one, or None."""

    def __init__(self, index):
        super().__init__(f"not 1 to 4 Readers: {index}")
        self.index = index


class BadText(ReaderError):
    """A value that is no text."""


class BadTexts(ReaderError):
    """A value that is not 1 to 20 texts; index is the first wrong one, or None."""

    def __init__(self, index):
        super().__init__(f"not 1 to 20 texts: {index}")
        self.index = index


class NotTaken(ReaderError):
    """A text that the reader does not take; at is where it stops."""

    def __init__(self, at):
        super().__init__(f"the reader stops at {at}")
        self.at = at


class BadNumber(ReaderError):
    """A value that is no number within the limits."""


class BadNumbers(ReaderError):
    """A value that is not what is read; index is the first wrong thing, or None."""

    def __init__(self, index):
        super().__init__(f"not what is read of the texts: {index}")
        self.index = index


class BadLength(ReaderError):
    """A value that is no length within the limits."""


class BadIndex(ReaderError):
    """A value that is no index of a text."""


class BadChain(ReaderError):
    """A value that is no chain; index is the first thing that is no pair, or None."""

    def __init__(self, index):
        super().__init__(f"not a chain of 1 to 6 pairs of Readers: {index}")
        self.index = index


class InvalidText(ReaderError):
    """Words that tell no reader; word is the first wrong one, counted from 1."""

    def __init__(self, word):
        super().__init__(f"no reader goes on so at the word {word}")
        self.word = word
