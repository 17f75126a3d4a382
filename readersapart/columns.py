"""A column of texts, that several readers read one behind the other."""

from readersapart.checks import check_text
from readersapart.lots import numbers_for, safety_of
from readersapart.readers import check_readers


class Column:
    """Texts that stand one behind the other, and what they mean for some readers."""

    def __init__(self, readers):
        check_readers(readers)
        self._readers = tuple(readers)
        # Pairs of a text, and of what it means for each reader, None if it does not take it.
        self._rows = []

    def __len__(self):
        return len(self._rows)

    @property
    def readers(self):
        """The tuple of the readers."""
        return self._readers

    @property
    def texts(self):
        """The tuple of the texts that stand."""
        return tuple([text for text, _ in self._rows])

    def add(self, text):
        """Put a text behind the others, and tell its safety."""
        check_text(text)
        numbers = numbers_for(self._readers, text)
        self._rows.append((text, numbers))
        return safety_of(numbers)

    def left(self):
        """The ascending list of the places of the readers that take all texts that stand."""
        return [at for at in range(len(self._readers)) if None not in self.numbers(at)]

    def numbers(self, at):
        """What the texts mean for the reader at a place, None for those that it does not take."""
        return [numbers[at] for _, numbers in self._rows]

    def undo(self):
        """Take the last text away; whether there was one."""
        if not self._rows:
            return False
        self._rows.pop()
        return True

    def copy(self):
        """An independent column that stands as this one."""
        column = Column(self._readers)
        column._rows = list(self._rows)
        return column
