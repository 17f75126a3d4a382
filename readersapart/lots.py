"""Texts that several readers read."""

from readersapart.checks import check_text, check_texts
from readersapart.reading import number_if_taken
from readersapart.readers import check_readers
from readersapart.walks import are_unlike, least_text, some_go_on


def safety(readers, text):
    """How safe a text is: "refused", "apart", "partly" or "safe"."""
    check_readers(readers)
    check_text(text)
    return safety_of(numbers_for(readers, text))


def safety_of(numbers):
    """The safety of a text by what it means for each reader, None for those that do not take it."""
    told = [number for number in numbers if number is not None]
    if not told:
        return "refused"
    if len(set(told)) > 1:
        return "apart"
    return "safe" if len(told) == len(numbers) else "partly"


def parting(readers):
    """The shortest text, of these the least, that is neither refused nor safe; None if there is none."""
    check_readers(readers)
    return least_text(readers, some_go_on, are_unlike)


def takers(readers, texts):
    """The ascending list of the places of the readers that take all texts."""
    rows = _rows_of_numbers(readers, texts)
    return [place for place, numbers in enumerate(rows) if None not in numbers]


def ways(readers, texts):
    """Pairs of the numbers that texts mean, and of the places of the readers for which they do."""
    places_of = {}
    for place, numbers in enumerate(_rows_of_numbers(readers, texts)):
        if None not in numbers:
            places_of.setdefault(numbers, []).append(place)
    return [(numbers, tuple(places_of[numbers])) for numbers in places_of]


def numbers_for(readers, text):
    """What the text means for each reader, None for those that do not take it."""
    return tuple([number_if_taken(reader, text) for reader in readers])


def _rows_of_numbers(readers, texts):
    """For each reader the tuple of what the texts mean for it, None for those that it does not take."""
    check_readers(readers)
    check_texts(texts)
    return [tuple([number_if_taken(reader, text) for text in texts]) for reader in readers]
