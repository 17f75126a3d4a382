"""Readers of numbers, and the check of values that should be some."""

from readersapart.errors import BadPart, BadReader, BadReaders

# What each part may be, in the order in which a reader has its parts.
CHOICES = (
    ("point", (".", ",", "")),
    ("comma", (".", ",", "'", " ", "")),
    ("rest", (3, 2)),
    ("must", (False, True)),
    ("sign", ("none", "ahead", "behind")),
    ("zeros", (False, True)),
    ("blanks", (False, True)),
    ("exponent", (False, True)),
)

MOST_READERS = 4


class Reader:
    """How numbers are written for one who reads them."""

    def __init__(self, point, comma, rest, must, sign, zeros, blanks, exponent):
        values = (point, comma, rest, must, sign, zeros, blanks, exponent)
        wrong = _first_wrong(values)
        if wrong is not None:
            raise BadPart(wrong)
        self._parts = values

    def __eq__(self, other):
        return isinstance(other, Reader) and self._parts == other._parts

    @property
    def point(self):
        """The decimal sign, or the empty string."""
        return self._parts[0]

    @property
    def comma(self):
        """The sign between groups of figures, or the empty string."""
        return self._parts[1]

    @property
    def rest(self):
        """How many figures a group has that is not the last one."""
        return self._parts[2]

    @property
    def must(self):
        """Whether four figures or more have to stand in groups."""
        return self._parts[3]

    @property
    def sign(self):
        """Where a minus sign may stand."""
        return self._parts[4]

    @property
    def zeros(self):
        """Whether noughts may stand ahead."""
        return self._parts[5]

    @property
    def blanks(self):
        """Whether blanks may stand around the number."""
        return self._parts[6]

    @property
    def exponent(self):
        """Whether a power of ten may stand behind."""
        return self._parts[7]


def parts(reader):
    """The tuple of the eight parts of a reader."""
    check_reader(reader)
    return reader._parts


def all_readers():
    """All readers that there are, in the order of their first parts, of alike ones of their second parts, and so on."""
    rows = [()]
    for _, choices in CHOICES:
        rows = [row + (choice,) for row in rows for choice in choices]
    return [Reader(*row) for row in rows if _first_wrong(row) is None]


def check_reader(value):
    """Raise BadReader for a value that is no Reader."""
    if not isinstance(value, Reader):
        raise BadReader("not a Reader")


def check_readers(values):
    """Raise BadReaders for a value that is no list or tuple of 1 to 4 Readers."""
    if not isinstance(values, (list, tuple)) or not 1 <= len(values) <= MOST_READERS:
        raise BadReaders(None)
    for index, value in enumerate(values):
        if not isinstance(value, Reader):
            raise BadReaders(index)


def _first_wrong(values):
    """The name of the first part that cannot be, None if all can."""
    for value, (name, choices) in zip(values, CHOICES):
        if not _is_among(value, choices) or _clashes(name, values):
            return name
    return None


def _is_among(value, choices):
    # True equals 1 in Python, but is no integer here.
    return any([isinstance(value, bool) == isinstance(choice, bool) and value == choice for choice in choices])


def _clashes(name, values):
    """Whether a part, possible in itself, cannot be beside the parts ahead of it."""
    if name == "comma":
        return values[1] != "" and values[1] == values[0]
    return name == "blanks" and values[6] and values[1] == " "
