"""The readers that agree with what is told of texts."""

from readersapart.checks import check_numbers, check_texts
from readersapart.readers import all_readers, parts
from readersapart.reading import number_if_taken


def fitting(texts, numbers):
    """The parts of all readers that take the texts as these numbers, and not those with None."""
    check_texts(texts)
    check_numbers(numbers, len(texts))
    return [parts(reader) for reader in all_readers() if _agrees(reader, texts, numbers)]


def common_parts(texts, numbers):
    """The tuple of the parts that all fitting readers have, None where they differ; None without any."""
    found = fitting(texts, numbers)
    if not found:
        return None
    return tuple([_if_alike(values) for values in zip(*found)])


def _agrees(reader, texts, numbers):
    # Most readers part on the first texts, so the others need not be read.
    for text, number in zip(texts, numbers):
        if number_if_taken(reader, text) != number:
            return False
    return True


def _if_alike(values):
    return values[0] if len(set(values)) == 1 else None
