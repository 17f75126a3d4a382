"""How several readers go through one text side by side, sign by sign.

Each reader has a stand: None if no text that it takes begins so, otherwise a
triple (state, pointed, worth) of its state of the machine, whether its point
was read, and whether a figure other than 0 was read ahead of the exponent.

The mark of a reader at the end of a text is None if it does not take the text,
otherwise whether its point cuts figures that are not all 0. Readers that take
a text mean the same number just if their marks are alike. For a point that one
reads, and the other does not, is a comma for the other one; so three figures
stand behind it, and the numbers are 1000 times each other. If both read a
point, it is the same one: a point that is the other's comma would stand behind
the other's point, and the other way about.
"""

from readersapart.machine import POINT, START, lacking, step

# The signs of all texts that are taken, in order, and how many figures each of
# them stands for: the figures from 1 to 9 are read alike, and 1 is the least.
SIGNS = ((" ", 1), ("'", 1), (",", 1), ("-", 1), (".", 1), ("0", 1), ("1", 9), ("e", 1))


def least_text(readers, may_go_on, is_wanted):
    """The shortest text, of these the least, with wanted marks; None without one.

    Texts go on only from stands from which they may go on.
    """
    for text, stands in first_arrivals(readers, may_go_on):
        if is_wanted(marks_of(stands)):
            return text
    return None


def first_arrivals(readers, may_go_on):
    """Each stands to which texts come, behind the shortest text, of these the least, that comes there.

    These are in the order of the texts, shorter ones first. Texts go on only
    from stands from which they may go on.
    """
    start = start_of(readers)
    seen = {start: True}
    row = [("", start)]
    yield ("", start)
    while row:
        # Row is in ascending order, and so is what is made of it: the first
        # text that comes to some stands is the least of the shortest ones.
        longer = []
        for text, stands in row:
            for sign, stands_behind, _ in moves_from(readers, stands, may_go_on):
                if stands_behind not in seen:
                    seen[stands_behind] = True
                    longer.append((text + sign, stands_behind))
                    yield (text + sign, stands_behind)
        row = longer


def tally(readers, length, may_go_on):
    """A dict from marks to how many texts of a length have them.

    Only texts count that go on from stands from which they may go on.
    """
    many = {start_of(readers): 1}
    moves = {}
    for _ in range(length):
        longer = {}
        for stands in many:
            if stands not in moves:
                moves[stands] = moves_from(readers, stands, may_go_on)
            for _, stands_behind, times in moves[stands]:
                longer[stands_behind] = longer.get(stands_behind, 0) + many[stands] * times
        many = longer
    found = {}
    for stands in many:
        marks = marks_of(stands)
        found[marks] = found.get(marks, 0) + many[stands]
    return found


def some_go_on(stands):
    """Whether at least one reader takes a text that begins so."""
    return any([stand is not None for stand in stands])


def all_go_on(stands):
    """Whether each reader takes a text that begins so."""
    return all([stand is not None for stand in stands])


def all_take(marks):
    """Whether each reader takes the text."""
    return None not in marks


def are_unlike(marks):
    """Whether the text is taken by some readers, and not as the same number by all."""
    return len(set(marks)) > 1


def start_of(readers):
    """The stands of the readers ahead of all signs."""
    return tuple([(START, False, False) for _ in readers])


def moves_from(readers, stands, may_go_on):
    """Triples of a sign, the stands behind it, and how many signs are read like it."""
    found = []
    for sign, times in SIGNS:
        stands_behind = tuple([_behind(reader, stand, sign) for reader, stand in zip(readers, stands)])
        if may_go_on(stands_behind):
            found.append((sign, stands_behind, times))
    return found


def _behind(reader, stand, sign):
    """The stand of a reader behind one more sign."""
    if stand is None:
        return None
    state, pointed, worth = stand
    state = step(reader, state, sign)
    if state is None:
        return None
    return (state, pointed or state == POINT, worth or (sign in "123456789" and state[0] != "power"))


def marks_of(stands):
    """The marks of the readers at the end of a text that comes to these stands."""
    return tuple([_mark(stand) for stand in stands])


def _mark(stand):
    if stand is None or lacking(stand[0]) > 0:
        return None
    return stand[1] and stand[2]
