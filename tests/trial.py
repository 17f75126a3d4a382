"""What the document says of texts, told by a trial of all short ones.

A reader is told here by the tuple of its eight parts, and a trial is a dict
from all texts that it takes, up to some length, to their worths, as
tests.grammar builds it. Nothing of the program is used.
"""

from itertools import combinations, product

from readersapart.readers import Reader
from tests.grammar import taken

# Values of every kind that may be passed where any value may be.
VALUES = [
    0, 1, 5, -1, 31, 10 ** 40, True, False, None, "", "5", "x", ".", (), (5,), (1, 0), ("5",), (None, [True]),
    [], [5], ["5"], [[]], {}, {"5": 5}, {1: 0},
]

# Readers that have each part in each way, beside each other one in some way.
CHOSEN = [
    (".", ",", 3, False, "ahead", False, False, False),
    (",", ".", 3, False, "behind", True, False, True),
    (".", ",", 2, True, "ahead", True, True, True),
    ("", ".", 2, False, "none", True, False, False),
    (",", "'", 3, True, "ahead", False, True, True),
    ("", " ", 3, False, "none", False, False, True),
    (".", "", 2, True, "none", False, False, False),
]

# All lots of one, of two and of three, and some of four, readers among them twice too.
LOTS = (
    [(told,) for told in CHOSEN]
    + list(product(CHOSEN, repeat=2))
    + list(combinations(CHOSEN, 3))
    + list(combinations(CHOSEN, 4))
    + [(CHOSEN[0], CHOSEN[1], CHOSEN[0], CHOSEN[1]), (CHOSEN[2],) * 4, (CHOSEN[0], CHOSEN[2], CHOSEN[0])]
)


def lot(many):
    """The readers with these parts."""
    return [Reader(*told) for told in many]


def trials(many, figures, longest):
    """The trials of many readers, by their parts."""
    return {told: taken(told, figures, longest) for told in many}


def in_order(texts):
    """Texts with the shortest ones first, and as Python compares strings."""
    return sorted(texts, key=lambda text: (len(text), text))


def least(texts):
    """The shortest text, of these the least; None if there is none."""
    return min(texts, key=lambda text: (len(text), text), default=None)


def alone_by_trial(one, other):
    return least(text for text in one if text not in other)


def two_by_trial(one, other):
    return least(text for text in one if text in other and one[text] != other[text])


def worths(many, text):
    """What the text is worth in each trial, None where it is not taken."""
    return [texts.get(text) for texts in many]


def safety_by_trial(many, text):
    told = worths(many, text)
    found = {worth for worth in told if worth is not None}
    if not found:
        return "refused"
    if len(found) > 1:
        return "apart"
    return "partly" if None in told else "safe"


def parting_by_trial(many):
    texts = set().union(*many)
    return least(text for text in texts if safety_by_trial(many, text) not in ("refused", "safe"))


def times(text):
    """How many texts there are like one of the figures 0 and 1, 1 standing for all from 1 to 9."""
    return 9 ** text.count("1")


def count_by_trial(texts, length):
    return sum(times(text) for text in texts if len(text) == length)


def both_by_trial(one, other, length):
    both = [text for text in one if len(text) == length and text in other]
    return (sum(times(text) for text in both), sum(times(text) for text in both if one[text] != other[text]))


def _product(one, other, longest):
    """The counts by length of what is made of a piece of each kind, one behind the other."""
    found = [0] * (longest + 1)
    for at, many in enumerate(one):
        for behind, more in enumerate(other):
            if at + behind <= longest:
                found[at + behind] += many * more
    return found


def _figure_counts(told, most):
    """How many rows of so many figures can be a whole, by how many figures there are."""
    return [0, 10] + [10 ** many if told[5] else 9 * 10 ** (many - 1) for many in range(2, most + 1)]


def _whole_counts(told, longest):
    _, comma, rest, must, _, _, _, _ = told
    figures = _figure_counts(told, longest)
    found = [many if not (must and comma) or at <= 3 else 0 for at, many in enumerate(figures)]
    for first in range(1, rest + 1):
        for middle in range(longest):
            size = first + middle * rest + 3
            length = size + middle + 1
            if comma and length <= longest:
                found[length] += figures[size]
    return found


def counts_by_pieces(told, longest):
    """How many texts of each length a reader takes: a text is one piece of each kind, in just one way."""
    blanks = [1] * (longest + 1) if told[6] else [1]
    minus = [1] if told[4] == "none" else [1, 1]
    fraction = [1, 0] + [10 ** many if told[0] else 0 for many in range(1, longest)]
    powers = [0, 10, 100 if told[5] else 90]
    exponent = [1] + ([0] + [powers[1], powers[2] + powers[1], powers[2]] if told[7] else [])
    found = [1]
    for piece in (blanks, minus, _whole_counts(told, longest), fraction, exponent, blanks):
        found = _product(found, piece, longest)
    return found


def is_written(told, text):
    """Whether a text that the reader takes has nothing that it does not write."""
    point, comma, _, _, _, _, blanks, _ = told
    body = text.strip("-")
    whole, _, fraction = body.partition(point) if point else (body, "", "")
    bare = whole.replace(comma, "") if comma else whole
    return (
        "e" not in text
        and not (blanks and " " in text)
        and not fraction.endswith("0")
        and (bare == "0" or bare[0] != "0")
        and (comma == "" or len(bare) < 4 or comma in whole)
        and not ("-" in text and bare == "0" and fraction == "")
    )


def written_by_trial(told, texts):
    """A dict from the worths of short written texts to these texts."""
    found = {}
    for text, worth in texts.items():
        if is_written(told, text):
            assert worth not in found, (told, text, found[worth])
            found[worth] = text
    return found


def off_by_trial(written, texts):
    """off, told by a trial of all short texts that are written and taken."""
    found = {}
    for worth, text in written.items():
        if worth != 0 and text in texts and texts[text] != worth:
            found.setdefault(_power_between(worth, texts[text]), []).append(text)
    return [(power, least(found[power])) for power in sorted(found)]


def _power_between(worth, other):
    """The power of ten by which another worth is more than a worth."""
    ratio, power = other / worth, 0
    while ratio >= 10:
        ratio, power = ratio / 10, power + 1
    while ratio < 1:
        ratio, power = ratio * 10, power - 1
    assert ratio == 1, (worth, other)
    return power
