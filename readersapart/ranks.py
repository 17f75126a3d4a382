"""Texts of a length by their index, those that one reader takes, and those that part two."""

from readersapart.checks import check_index, check_length
from readersapart.orders import OrderedTexts
from readersapart.readers import check_reader
from readersapart.reading import takes
from readersapart.walks import all_take, are_unlike


def text_at(reader, length, index):
    """The text with this index, in ascending order, of those of a length that the reader takes."""
    check_reader(reader)
    check_length(length)
    return _text_among(OrderedTexts((reader,), length, all_take), index)


def place_of(reader, text):
    """The index of a text among those of its length that the reader takes; None if it does not take it."""
    if not takes(reader, text):
        return None
    return OrderedTexts((reader,), len(text), all_take).index_of(text)


def parting_many(one, other, length):
    """How many texts of a length part two readers."""
    return _parting_texts(one, other, length).amount()


def parting_at(one, other, length, index):
    """The text with this index, in ascending order, of those of a length that part two readers."""
    return _text_among(_parting_texts(one, other, length), index)


def _parting_texts(one, other, length):
    check_reader(one)
    check_reader(other)
    check_length(length)
    return OrderedTexts((one, other), length, are_unlike)


def _text_among(texts, index):
    check_index(index, texts.amount())
    return texts.text_with(index)
