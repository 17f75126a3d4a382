"""How a reader goes through a text, sign by sign, from one state to the next.

A state is a pair (place, many): what was read last, and how many figures of it
there are, as far as this matters. Whatever state `step` tells, some text that
the reader takes goes on from there.
"""

FIGURES = "0123456789"

START = ("start", 0)
MINUS = ("minus", 0)
NOUGHT = ("nought", 0)
POINT = ("point", 0)
FRACTION = ("fraction", 0)
LETTER = ("letter", 0)
LESS = ("less", 0)
TURNED = ("turned", 0)
END = ("end", 0)

# More figures than three without a comma go on alike, however many they are.
MANY = 4

# The places behind which a figure has to follow.
BEFORE_FIGURES = ("start", "minus", "point", "letter", "less")


def step(reader, state, sign):
    """The state behind one more sign, None if no text that the reader takes begins so."""
    if sign in FIGURES:
        return _behind_figure(reader, state, sign)
    if sign == "-":
        return _behind_minus(reader, state)
    if sign == "e":
        return _behind_letter(reader, state)
    if sign == " " and reader.blanks:
        return _behind_blank(state)
    if sign == reader.point:
        return POINT if _whole_ends(state) else None
    if sign == reader.comma:
        return _behind_comma(reader, state)
    return None


def lacking(state):
    """How many signs have to follow, at least, for a text that is taken."""
    place, many = state
    if place == "group":
        return 3 - many
    return 1 if place in BEFORE_FIGURES else 0


def _behind_figure(reader, state, sign):
    place, many = state
    lone = sign == "0" and not reader.zeros
    if state in (START, MINUS):
        return NOUGHT if lone else ("plain", 1)
    if place == "plain":
        return _longer_plain(reader, many)
    if place == "group" and many < 3:
        return ("group", many + 1)
    if state in (POINT, FRACTION):
        return FRACTION
    if state in (LETTER, LESS):
        return ("power", 2 if lone else 1)
    return ("power", 2) if state == ("power", 1) else None


def _longer_plain(reader, many):
    if many == 3 and reader.must and reader.comma != "":
        return None
    return ("plain", min(many + 1, MANY))


def _behind_comma(reader, state):
    place, many = state
    if place == "plain" and many <= reader.rest:
        return ("group", 0)
    return ("group", 0) if state == ("group", reader.rest) else None


def _behind_minus(reader, state):
    if state == START:
        return MINUS if reader.sign == "ahead" else None
    if state == LETTER:
        return LESS
    return TURNED if reader.sign == "behind" and _number_ends(state) else None


def _behind_letter(reader, state):
    return LETTER if reader.exponent and (_whole_ends(state) or state == FRACTION) else None


def _behind_blank(state):
    if state == START:
        return START
    return END if lacking(state) == 0 else None


def _whole_ends(state):
    """Whether a whole may end here."""
    return state == NOUGHT or state[0] == "plain" or state == ("group", 3)


def _number_ends(state):
    """Whether a minus sign behind could stand here."""
    return lacking(state) == 0 and state not in (TURNED, END)
