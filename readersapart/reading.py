"""Whether a reader takes a text, where it stops, and what the text means."""

from readersapart.checks import LONGEST, check_text
from readersapart.errors import NotTaken
from readersapart.machine import START, lacking, step
from readersapart.readers import check_reader


def takes(reader, text):
    """Whether the reader takes the text."""
    return first_stop(reader, text) is None


def first_stop(reader, text):
    """None if the reader takes the text, otherwise how far it goes."""
    check_reader(reader)
    check_text(text)
    state = START
    for at, sign in enumerate(text):
        state = step(reader, state, sign)
        # What goes on to more signs than a text may have is no beginning of a text.
        if state is None or at + 1 + lacking(state) > LONGEST:
            return at
    return None if lacking(state) == 0 else len(text)


def means(reader, text):
    """The number that the text means for the reader."""
    at = first_stop(reader, text)
    if at is not None:
        raise NotTaken(at)
    return number_of(reader, text)


def number_if_taken(reader, text):
    """The number that a text of any length means, None if the reader does not take it."""
    return number_of(reader, text) if _goes_through(reader, text) else None


def number_of(reader, text):
    """The number that a text means which the reader surely takes."""
    body = text.strip(" ")
    front, _, power = body.strip("-").partition("e")
    whole, fraction = _around_point(reader, front)
    worth = int(whole.replace(reader.comma, "") + fraction)
    if body.startswith("-") or body.endswith("-"):
        worth = -worth
    return plain_number(worth, int(power or "0") - len(fraction))


def plain_number(worth, power):
    """The number worth times 10 to this power, without needless noughts behind."""
    if worth == 0:
        return (0, 0)
    while worth % 10 == 0:
        worth //= 10
        power += 1
    return (worth, power)


def _goes_through(reader, text):
    """Whether the reader takes a text of any length."""
    state = START
    for sign in text:
        state = step(reader, state, sign)
        if state is None:
            return False
    return lacking(state) == 0


def _around_point(reader, front):
    if reader.point == "":
        return (front, "")
    whole, _, fraction = front.partition(reader.point)
    return (whole, fraction)
