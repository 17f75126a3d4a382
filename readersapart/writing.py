"""How readers write numbers, how these are misread, and what is safe to write."""

from readersapart.checks import check_number
from readersapart.reading import means, number_if_taken
from readersapart.readers import check_reader, check_readers


def written(reader, number):
    """The text that the reader writes for a number; None if it lacks a point or a sign for it."""
    check_reader(reader)
    check_number(number)
    return text_of(reader, number)


def misread(writer, reader, number):
    """What a number, written by the writer, means for the reader; None if it is not written."""
    check_reader(writer)
    check_reader(reader)
    check_number(number)
    text = text_of(writer, number)
    return None if text is None else means(reader, text)


def shortest(readers, number):
    """The shortest text, of these the least, that all readers take as a number; None if there is none."""
    check_readers(readers)
    check_number(number)
    texts = _short_texts(readers[0], number)
    for _, text in sorted([(len(text), text) for text in texts]):
        if all([number_if_taken(reader, text) == number for reader in readers]):
            return text
    return None


def text_of(reader, number):
    """What the reader writes for a number of any size, None if it cannot."""
    return _signed(reader, number, _size(reader, reader.comma, number))


def _short_texts(reader, number):
    """The texts without anything needless that could mean the number for the reader.

    What has a blank around it, a nought ahead or behind that can be left out,
    or an exponent of 0, is never the shortest: without, all readers take it,
    too. So the exponent settles all but the groups.
    """
    found = []
    for power in _powers(reader, number):
        ending = f"e{power}" if power != 0 else ""
        for comma in ("", reader.comma):
            size = _size(reader, comma, (number[0], number[1] - power))
            text = None if size is None else _signed(reader, number, size + ending)
            if text is not None:
                found.append(text)
    return found


def _powers(reader, number):
    """The exponents that the shortest text can have, 0 for none.

    One that is further from 0 stands beside a needless nought more, and is no
    shorter itself.
    """
    if not reader.exponent:
        return [0]
    n, k = number
    return list(range(min(0, k), max(0, k + len(str(abs(n)))) + 1))


def _signed(reader, number, size):
    """A text with the sign of a number, None without the text or the sign."""
    if size is None or number[0] >= 0:
        return size
    if reader.sign == "none":
        return None
    return "-" + size if reader.sign == "ahead" else size + "-"


def _size(reader, comma, number):
    """The whole of a number, with this comma, and what stands behind its point; None without a point."""
    n, k = number
    behind = max(0, -k)
    figures = (str(abs(n)) + "0" * k).zfill(behind + 1)
    cut = len(figures) - behind
    whole = _in_groups(figures[:cut], comma, reader.rest)
    if behind == 0:
        return whole
    return None if reader.point == "" else whole + reader.point + figures[cut:]


def _in_groups(whole, comma, rest):
    if comma == "" or len(whole) < 4:
        return whole
    groups = [whole[-3:]]
    left = whole[:-3]
    while left != "":
        groups.insert(0, left[-rest:])
        left = left[:-rest]
    return comma.join(groups)
