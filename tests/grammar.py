"""The texts that a reader takes, built from the document's words alone.

A reader is told here by the tuple of its eight parts, in their order. Nothing
of the program is used, so that the tests can compare it with this.
"""

from fractions import Fraction
from itertools import product

PART_NAMES = ("point", "comma", "rest", "must", "sign", "zeros", "blanks", "exponent")

CHOICES = (
    [".", ",", ""],
    [".", ",", "'", " ", ""],
    [3, 2],
    [False, True],
    ["none", "ahead", "behind"],
    [False, True],
    [False, True],
    [False, True],
)


def all_parts():
    """The parts of all readers there are."""
    return [
        told
        for told in product(*CHOICES)
        if (told[1] == "" or told[0] != told[1]) and not (told[1] == " " and told[6])
    ]


def _rows(figures, least, most):
    """All rows of figures with a length from least to most."""
    return ["".join(row) for many in range(least, most + 1) for row in product(figures, repeat=many)]


def _group_sizes(rest, most):
    """The sizes of the groups of all wholes in groups with at most so many figures."""
    found = []
    for first in range(1, rest + 1):
        middle = 0
        while first + middle * rest + 3 <= most:
            found.append([first] + [rest] * middle + [3])
            middle += 1
    return found


def wholes(told, figures, longest):
    """Pairs (text, figures) of all wholes of at most so many signs."""
    _, comma, rest, must, _, zeros, _, _ = told
    most_plain = min(3, longest) if must and comma else longest
    found = [(row, row) for row in _rows(figures, 1, most_plain)]
    if comma:
        for sizes in _group_sizes(rest, longest):
            if sum(sizes) + len(sizes) - 1 <= longest:
                for row in _rows(figures, sum(sizes), sum(sizes)):
                    starts = [sum(sizes[:at]) for at in range(len(sizes))]
                    text = comma.join(row[start:start + size] for start, size in zip(starts, sizes))
                    found.append((text, row))
    return [(text, row) for text, row in found if zeros or len(row) == 1 or row[0] != "0"]


def _fractions(told, figures, longest):
    rows = _rows(figures, 1, longest - 2) if told[0] else []
    return [("", "")] + [(told[0] + row, row) for row in rows]


def _exponents(told, figures):
    found = [("", 0)]
    if told[7]:
        for mark, turn in (("e", 1), ("e-", -1)):
            for row in _rows(figures, 1, 2):
                if told[5] or len(row) == 1 or row[0] != "0":
                    found.append((mark + row, turn * int(row)))
    return found


def _signs(told):
    """Triples of a minus sign ahead or none, one behind or none, and the turn."""
    return {
        "none": [("", "", 1)],
        "ahead": [("", "", 1), ("-", "", -1)],
        "behind": [("", "", 1), ("", "-", -1)],
    }[told[4]]


def taken(told, figures, longest):
    """A dict from all texts with at most so many signs that are taken to their worths."""
    found = {}
    exponents = _exponents(told, figures)
    fractions = _fractions(told, figures, longest)
    for whole, row in wholes(told, figures, longest):
        for fraction, parts in fractions:
            if len(whole) + len(fraction) > longest:
                continue
            worth = Fraction(int(row + parts), 10 ** len(parts))
            for (exponent, power), (ahead, behind, turn) in product(exponents, _signs(told)):
                core = ahead + whole + fraction + exponent + behind
                room = longest - len(core)
                for before in range(room + 1 if told[6] else min(room + 1, 1)):
                    for after in range(room - before + 1 if told[6] else 1):
                        found[" " * before + core + " " * after] = turn * worth * Fraction(10) ** power
    return found


def beginnings(texts):
    """The set of all beginnings of these texts."""
    return {text[:many] for text in texts for many in range(len(text) + 1)}


def stop(text, texts, starts):
    """first_stop, told by a trial of all beginnings of the text."""
    if text in texts:
        return None
    return max((many for many in range(len(text) + 1) if text[:many] in starts), default=0)


def all_texts(signs, longest):
    """All texts of these signs with at most so many of them."""
    return _rows(signs, 0, longest)


def worth_of(number):
    """What a number (n, k) stands for."""
    return number[0] * Fraction(10) ** number[1]
