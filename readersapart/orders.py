"""The texts of a length with wanted marks, in ascending order: by their index, and back."""

from readersapart.walks import first_arrivals, marks_of, moves_from, some_go_on, start_of


class OrderedTexts:
    """The texts of a length that are taken by some reader and have wanted marks."""

    def __init__(self, readers, length, is_wanted):
        self._length = length
        self._start = start_of(readers)
        self._moves = {
            stands: moves_from(readers, stands, some_go_on)
            for _, stands in first_arrivals(readers, some_go_on)
        }
        # By how many signs are to come: dicts from stands to how many wanted texts go on so.
        self._many = [{stands: 1 if is_wanted(marks_of(stands)) else 0 for stands in self._moves}]
        for _ in range(length):
            self._many.append(_one_sign_ahead(self._moves, self._many[-1]))

    def amount(self):
        """How many texts there are."""
        return self._many[self._length][self._start]

    def text_with(self, index):
        """The text with an index that surely is one."""
        text, stands = "", self._start
        for left in reversed(range(self._length)):
            many = self._many[left]
            for first, behind, times in self._moves[stands]:
                if index < times * many[behind]:
                    break
                index -= times * many[behind]
            text += first if times == 1 else str(int(first) + index // many[behind])
            stands, index = behind, index % many[behind]
        return text

    def index_of(self, text):
        """The index of a text that surely is one of these."""
        index, stands = 0, self._start
        for at, sign in enumerate(text):
            many = self._many[self._length - at - 1]
            for first, behind, times in self._moves[stands]:
                ahead = min(times, ord(sign) - ord(first))
                index += ahead * many[behind]
                if ahead < times:
                    break
            stands = behind
        return index


def _one_sign_ahead(moves, many):
    """How many texts go on from all stands, one sign ahead of where there are so many."""
    return {stands: sum([times * many[behind] for _, behind, times in moves[stands]]) for stands in moves}
