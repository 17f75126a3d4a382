"""The checks of texts, numbers and lengths that are passed to the program."""

from readersapart.errors import BadIndex, BadLength, BadNumber, BadNumbers, BadText, BadTexts

LONGEST = 100
MOST_TEXTS = 20
MOST_LENGTH = 30
MOST_WORTH = 10 ** 30
MOST_POWER = 30


def check_text(value):
    """Raise BadText for a value that is no string of at most 100 signs."""
    if not _is_text(value):
        raise BadText("not a text of at most 100 signs")


def check_texts(values):
    """Raise BadTexts for a value that is no list or tuple of 1 to 20 texts."""
    if not isinstance(values, (list, tuple)) or not 1 <= len(values) <= MOST_TEXTS:
        raise BadTexts(None)
    for index, value in enumerate(values):
        if not _is_text(value):
            raise BadTexts(index)


def check_length(value):
    """Raise BadLength for a value that is no integer from 0 to 30."""
    if not is_plain_integer(value) or not 0 <= value <= MOST_LENGTH:
        raise BadLength("not a length from 0 to 30")


def check_index(value, many):
    """Raise BadIndex for a value that is no integer from 0 to one less than this many."""
    if not is_plain_integer(value) or not 0 <= value < many:
        raise BadIndex(f"not an index of one of {many} texts")


def check_number(value):
    """Raise BadNumber for a value that is no number within the limits."""
    if not is_number(value):
        raise BadNumber("not a number (n, k) within the limits")


def check_numbers(values, many):
    """Raise BadNumbers for a value that is no list or tuple of this many numbers or Nones."""
    if not isinstance(values, (list, tuple)) or len(values) != many:
        raise BadNumbers(None)
    for index, value in enumerate(values):
        if value is not None and not is_number(value):
            raise BadNumbers(index)


def is_number(value):
    """Whether a value is a number (n, k) within the limits."""
    if not isinstance(value, tuple) or len(value) != 2:
        return False
    n, k = value
    if not is_plain_integer(n) or not is_plain_integer(k):
        return False
    if n == 0:
        return k == 0
    return n % 10 != 0 and abs(n) <= MOST_WORTH and abs(k) <= MOST_POWER


def is_plain_integer(value):
    """Whether a value is an integer; True and False are none here."""
    return isinstance(value, int) and not isinstance(value, bool)


def _is_text(value):
    return isinstance(value, str) and len(value) <= LONGEST
