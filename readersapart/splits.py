"""How texts part several readers, and the fewest texts that tell them apart."""

from itertools import combinations

from readersapart.checks import check_texts
from readersapart.lots import numbers_for
from readersapart.pairs import same
from readersapart.readers import check_readers
from readersapart.walks import first_arrivals, marks_of, some_go_on


def splits(readers):
    """Pairs of all labels that some text has, and of the shortest text, of these the least, that has them."""
    check_readers(readers)
    found = {}
    for text, stands in first_arrivals(readers, some_go_on):
        found.setdefault(_labels(marks_of(stands)), text)
    return sorted([(labels, found[labels]) for labels in found])


def fewest_texts(readers):
    """The least number of texts by which all readers that are not the same are told apart."""
    return len(texts_for(readers))


def texts_for(readers):
    """A list of as few texts as tell all readers apart that are not the same."""
    rows = splits(readers)
    pairs = _pairs_apart(readers)
    # Each further text can tell one further reader apart, so fewer texts than readers do.
    for many in range(len(readers)):
        for chosen in combinations(rows, many):
            if _are_told_apart(pairs, [labels for labels, _ in chosen]):
                return [text for _, text in chosen]
    return [text for _, text in rows]


def tell_apart(readers, texts):
    """Whether the texts tell all readers apart that are not the same."""
    check_readers(readers)
    check_texts(texts)
    return _are_told_apart(_pairs_apart(readers), [_labels(numbers_for(readers, text)) for text in texts])


def _pairs_apart(readers):
    """Pairs of the places of all readers that are not the same."""
    return [
        (first, second)
        for second in range(len(readers)) for first in range(second)
        if not same(readers[first], readers[second])
    ]


def _are_told_apart(pairs, many_labels):
    """Whether for each pair of places some labels differ."""
    return all([any([labels[first] != labels[second] for labels in many_labels]) for first, second in pairs])


def _labels(told):
    """0 for each None, 1 for each that is as the first one that is not None, 2 for the others."""
    taken = [one for one in told if one is not None]
    return tuple([0 if one is None else 1 if one == taken[0] else 2 for one in told])
