"""By which powers of ten numbers that one writes are misread by another."""

from readersapart.readers import check_reader


def off(writer, reader):
    """Pairs of each power of ten but 0 by which numbers are misread, and of the shortest text for it.

    A written text is misread only by a point that is a comma for the other one
    (see walks.py); three figures stand behind it, and no other such sign can
    stand in the text.
    """
    check_reader(writer)
    check_reader(reader)
    found = []
    if writer.comma != "" and writer.comma == reader.point:
        found.append((-3, f"1{writer.comma}000"))
    if writer.point != "" and writer.point == reader.comma:
        # The last figure is no nought, as needless ones are not written.
        first = "0" if reader.zeros else "1"
        found.append((3, f"{first}{writer.point}001"))
    return found
