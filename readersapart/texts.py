"""Readers as texts of words, and back."""

from readersapart.errors import InvalidText
from readersapart.readers import CHOICES, Reader, check_reader

# The words for signs; other values have their own names as their words.
SIGN_WORDS = {".": "dot", ",": "comma", "'": "apostrophe", " ": "blank", "": "none"}

# The parts whose names stand where they are True, in their order.
FLAGS = ("must", "zeros", "blanks", "exponent")

# How many words stand ahead of these.
FIRST_WORDS = 4


def write(reader):
    """The words for a reader, with one space between."""
    check_reader(reader)
    words = [_word(value) for value in (reader.point, reader.comma, reader.rest, reader.sign)]
    values = (reader.must, reader.zeros, reader.blanks, reader.exponent)
    return " ".join(words + [name for name, value in zip(FLAGS, values) if value])


def read(text):
    """The reader that a text of words tells."""
    words = [word for word in text.split(" ") if word != ""]
    point = _value(words, 0, _choices("point"))
    comma = _value(words, 1, [sign for sign in _choices("comma") if sign == "" or sign != point])
    rest = _value(words, 2, _choices("rest"))
    sign = _value(words, 3, _choices("sign"))
    flags = _flags(words, [name for name in FLAGS if name != "blanks" or comma != " "])
    must, zeros, blanks, exponent = [name in flags for name in FLAGS]
    return Reader(point, comma, rest, must, sign, zeros, blanks, exponent)


def _word(value):
    return SIGN_WORDS.get(value, str(value))


def _choices(name):
    return dict(CHOICES)[name]


def _value(words, at, choices):
    """Which of the choices the word at a place, from 0, stands for."""
    for choice in choices:
        if at < len(words) and words[at] == _word(choice):
            return choice
    raise InvalidText(at + 1)


def _flags(words, names):
    """The words behind the first ones, which stand in the order of these names, each once."""
    flags = words[FIRST_WORDS:]
    left = names
    for number, word in enumerate(flags, start=FIRST_WORDS + 1):
        if word not in left:
            raise InvalidText(number)
        left = left[left.index(word) + 1:]
    return flags
