"""Whether a reader takes a text, where it stops, and what the text means."""

from readersapart.errors import BadText, NotTaken
from readersapart.machine import START, lacking, step
from readersapart.readers import check_reader

LONGEST = 100


def takes(reader, text):
    """Whether the reader takes the text."""
    return first_stop(reader, text) is None


def first_stop(reader, text):
    """None if the reader takes the text, otherwise how far it goes."""
    check_reader(reader)
    check_text(text)
    state = START
    for at, sign in enumerate(text):
        state = step(reader, state, sign)
        # What goes on to more signs than a text may have is no beginning of a text.
        if state is None or at + 1 + lacking(state) > LONGEST:
            return at
    return None if lacking(state) == 0 else len(text)


def means(reader, text):
    """The number that the text means for the reader."""
    at = first_stop(reader, text)
    if at is not None:
        raise NotTaken(at)
    return number_of(reader, text)


def check_text(value):
    """Raise BadText for a value that is no string of at most 100 signs."""
    if not isinstance(value, str) or len(value) > LONGEST:
        raise BadText("not a text of at most 100 signs")


def number_of(reader, text):
    """The number that a text means which the reader surely takes."""
    body = text.strip(" ")
    front, _, power = body.strip("-").partition("e")
    whole, fraction = _around_point(reader, front)
    worth = int(whole.replace(reader.comma, "") + fraction)
    if body.startswith("-") or body.endswith("-"):
        worth = -worth
    return plain_number(worth, int(power or "0") - len(fraction))


def plain_number(worth, power):
    """The number worth times 10 to this power, without needless noughts behind."""
    if worth == 0:
        return (0, 0)
    while worth % 10 == 0:
        worth //= 10
        power += 1
    return (worth, power)


def _around_point(reader, front):
    if reader.point == "":
        return (front, "")
    whole, _, fraction = front.partition(reader.point)
    return (whole, fraction)
