"""What becomes of numbers that one writes and another reads, again and again."""

from readersapart.checks import check_number
from readersapart.errors import BadChain
from readersapart.reading import number_if_taken
from readersapart.readers import Reader
from readersapart.writing import text_of

MOST_PAIRS = 6


def passed(chain, number):
    """The numbers behind the pairs of the chain, up to the first one that does not pass the number on."""
    _check_chain(chain)
    check_number(number)
    return _numbers_behind(chain, number)


def rounds(chain, number):
    """The numbers with which rounds through the chain begin: those that come once, and the ring of the others."""
    _check_chain(chain)
    check_number(number)
    begun = [number]
    # Some number comes again: a thousand times as much is read only of less than 1000 with three figures
    # behind the point, and a thousandth only of what is written with one comma.
    while True:
        behind = _numbers_behind(chain, begun[-1])
        if len(behind) < len(chain):
            return (tuple(begun), ())
        if behind[-1] in begun:
            ahead = begun.index(behind[-1])
            return (tuple(begun[:ahead]), tuple(begun[ahead:]))
        begun.append(behind[-1])


def _numbers_behind(chain, number):
    found = []
    for writer, reader in chain:
        text = text_of(writer, number)
        number = None if text is None else number_if_taken(reader, text)
        if number is None:
            break
        found.append(number)
    return found


def _check_chain(value):
    """Raise BadChain for a value that is no tuple of 1 to 6 pairs of Readers."""
    if not isinstance(value, tuple) or not 1 <= len(value) <= MOST_PAIRS:
        raise BadChain(None)
    for index, thing in enumerate(value):
        if not _is_pair(thing):
            raise BadChain(index)


def _is_pair(value):
    return isinstance(value, tuple) and len(value) == 2 and all([isinstance(part, Reader) for part in value])
