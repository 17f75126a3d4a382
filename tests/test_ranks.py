import unittest
from itertools import product

from readersapart.errors import BadIndex, BadLength, BadReader, BadText
from readersapart.pairs import alone, count, count_both, same, two_numbers
from readersapart.ranks import parting_at, parting_many, place_of, text_at
from readersapart.readers import Reader
from readersapart.reading import means, takes
from tests.grammar import all_parts, taken
from tests.trial import VALUES, times, trials

ONE = Reader(".", ",", 3, False, "ahead", False, False, False)
OTHER = Reader(",", ".", 3, False, "ahead", False, False, False)

CHOSEN = [
    (".", ",", 3, False, "ahead", False, False, False),
    (",", ".", 3, False, "ahead", True, False, True),
    (".", ",", 2, True, "behind", True, True, True),
    ("", ".", 2, False, "none", True, False, False),
    (",", "'", 3, True, "ahead", False, True, True),
    ("", " ", 3, False, "none", False, False, True),
    ("", "", 3, False, "none", False, False, False),
]

NO_INDICES = [True, False, None, "", "0", (), (0,), [], [0], {}, {0: 0}, ONE]


def parts_two(one, other, text):
    """Whether a text parts two readers, by dicts of the worths of the texts that they take."""
    return one.get(text) != other.get(text)


def parting_texts(one, other, length):
    texts = sorted(set(one) | set(other))
    return [text for text in texts if len(text) == length and parts_two(one, other, text)]


class Ranked(unittest.TestCase):
    def assert_no_index(self, index, function, *arguments):
        with self.assertRaises(BadIndex, msg=(arguments, index)):
            function(*arguments, index)


class TextAtTest(Ranked):
    def test_all_short_texts(self):
        for told in CHOSEN:
            reader = Reader(*told)
            texts = taken(told, "0123456789", 4)
            for length in range(3):
                row = sorted(text for text in texts if len(text) == length)
                self.assertEqual([text_at(reader, length, index) for index in range(len(row))], row, (told, length))
                self.assertEqual([place_of(reader, text) for text in row], list(range(len(row))), (told, length))
                self.assert_no_index(len(row), text_at, reader, length)
            for length, step in ((3, 11), (4, 53)):
                row = sorted(text for text in texts if len(text) == length)
                for index in list(range(0, len(row), step)) + [len(row) - 1]:
                    self.assertEqual(text_at(reader, length, index), row[index], (told, index))
                    self.assertEqual(place_of(reader, row[index]), index, (told, index))

    def test_all_readers(self):
        for told in all_parts()[::29]:
            reader = Reader(*told)
            row = sorted(text for text in taken(told, "0123456789", 2) if len(text) == 2)
            self.assertEqual([text_at(reader, 2, index) for index in range(len(row))], row, told)
            self.assertEqual([place_of(reader, text) for text in row], list(range(len(row))), told)

    def test_longer_texts(self):
        for told in CHOSEN:
            reader = Reader(*told)
            row = sorted(text for text in taken(told, "01", 8) if len(text) == 8)
            for text, behind in list(zip(row, row[1:]))[::41]:
                # Each text between has a figure other than 0 and 1.
                place, next_place = place_of(reader, text), place_of(reader, behind)
                self.assertLess(place, next_place, (told, text, behind))
                for index in range(place, min(next_place, place + 5)):
                    found = text_at(reader, 8, index)
                    self.assertTrue(text <= found < behind and takes(reader, found), (told, index))
                    self.assertEqual(index == place, found == text, (told, index))

    def test_places_by_counting(self):
        for told in CHOSEN:
            reader = Reader(*told)
            row = sorted(text for text in taken(told, "01", 6) if len(text) == 6)
            for text in row[::29]:
                ahead = sum(self.many_ahead(like, text) for like in row)
                self.assertEqual(place_of(reader, text), ahead, (told, text))

    def many_ahead(self, like, text):
        """How many texts are ahead of a text of those that have any figures but 0 in the place of each 1."""
        for at, (sign, other) in enumerate(zip(like, text)):
            if sign != other:
                # Those with a greater figure in the place of a 1 so far are behind the text.
                return times(like[at:]) if sign < other else 0
        return 0

    def test_round_trips(self):
        for told in all_parts()[::11]:
            reader = Reader(*told)
            for length in (1, 2, 7, 13, 30):
                many = count(reader, length)
                for index in {0, many // 3, many // 2, many - 1} if many else set():
                    text = text_at(reader, length, index)
                    self.assertEqual((len(text), takes(reader, text)), (length, True), told)
                    self.assertEqual(place_of(reader, text), index, (told, text))
                self.assert_no_index(many, text_at, reader, length)
                self.assert_no_index(-1, text_at, reader, length)

    def test_ascending(self):
        for told in CHOSEN:
            reader = Reader(*told)
            many = count(reader, 30)
            texts = [text_at(reader, 30, many * step // 50) for step in range(50)]
            self.assertEqual(texts, sorted(texts), told)

    def test_long_figures(self):
        figures = Reader("", "", 3, False, "none", True, False, False)
        self.assertEqual([text_at(figures, 30, index) for index in (0, 12345, 10 ** 30 - 1)],
                         ["0" * 30, "12345".zfill(30), "9" * 30])
        self.assertEqual(place_of(figures, "9" * 100), 10 ** 100 - 1)
        self.assertEqual(place_of(figures, "0" * 100), 0)
        self.assertEqual(place_of(Reader("", "", 3, False, "none", False, False, False), "1" + "0" * 99), 0)
        self.assertEqual(text_at(ONE, 30, count(ONE, 30) - 1), "9" * 30)

    def test_not_taken(self):
        for text in ("", "x", "1,23", "01", "-", "1" * 3 + "," + "1" * 96, " 1", "\u0661"):
            self.assertIsNone(place_of(ONE, text))
        self.assertIs(type(place_of(ONE, "0")), int)

    def test_no_texts_of_a_length(self):
        for length, index in ((0, 0), (0, -1), (0, None)):
            self.assert_no_index(index, text_at, ONE, length)
        self.assert_no_index(0, parting_at, ONE, OTHER, 0)
        self.assert_no_index(0, parting_at, ONE, OTHER, 1)
        self.assert_no_index(0, parting_at, ONE, ONE, 30)


class PartingTest(Ranked):
    def test_all_short_texts(self):
        texts = {told: taken(told, "0123456789", 3) for told in CHOSEN}
        for one, other in product(CHOSEN, repeat=2):
            pair = (Reader(*one), Reader(*other))
            for length in range(4):
                row = parting_texts(texts[one], texts[other], length)
                self.assertEqual(parting_many(*pair, length), len(row), (one, other, length))
                chosen = list(range(0, len(row), 7)) + [len(row) - 1][:len(row)]
                self.assertEqual([parting_at(*pair, length, index) for index in chosen],
                                 [row[index] for index in chosen], (one, other, length))
                self.assert_no_index(len(row), parting_at, *pair, length)

    def test_numbers_of_longer_texts(self):
        texts = trials(CHOSEN, "01", 8)
        for one, other in product(CHOSEN, repeat=2):
            for length in (5, 8):
                row = parting_texts(texts[one], texts[other], length)
                self.assertEqual(parting_many(Reader(*one), Reader(*other), length),
                                 sum(times(text) for text in row), (one, other, length))

    def test_longer_texts(self):
        texts = trials(CHOSEN, "01", 6)
        for one, other in product(CHOSEN, repeat=2):
            pair = (Reader(*one), Reader(*other))
            row = parting_texts(texts[one], texts[other], 6)
            many = parting_many(*pair, 6)
            found = [parting_at(*pair, 6, many * step // 20) for step in range(20)] if many else []
            self.assertEqual(found, sorted(found), (one, other))
            if row:
                # The least text has no figures but these two.
                self.assertEqual(parting_at(*pair, 6, 0), row[0], (one, other))
            for text in found:
                self.assertTrue(self.is_parting(pair, text), (one, other, text))

    def is_parting(self, pair, text):
        return len({means(reader, text) if takes(reader, text) else None for reader in pair}) == 2

    def test_the_texts_of_many_neighbours_are_unlike(self):
        for length in (5, 30):
            many = parting_many(ONE, OTHER, length)
            for start in (0, many // 2, many - 40):
                found = [parting_at(ONE, OTHER, length, index) for index in range(start, start + 40)]
                self.assertEqual(found, sorted(set(found)))
                self.assertTrue(all(len(text) == length and self.is_parting((ONE, OTHER), text) for text in found))

    def test_by_the_counts_of_pairs(self):
        for one, other in product(CHOSEN, all_parts()[::97]):
            one, other = Reader(*one), Reader(*other)
            for length in (0, 1, 6, 30):
                both, two = count_both(one, other, length)
                many = count(one, length) + count(other, length) - 2 * both + two
                self.assertEqual(parting_many(one, other, length), many)
                self.assertEqual(parting_many(other, one, length), many)

    def test_none_just_if_two_are_the_same(self):
        for one, other in product(all_parts()[::83], all_parts()[::131]):
            one, other = Reader(*one), Reader(*other)
            lengths = [length for length in range(31) if parting_many(one, other, length) > 0]
            self.assertEqual(same(one, other), lengths == [])
            if lengths:
                first = [text for text in (alone(one, other), alone(other, one), two_numbers(one, other)) if text]
                least = min(first, key=lambda text: (len(text), text))
                self.assertEqual(parting_at(one, other, lengths[0], 0), least)

    def test_the_same_with_other_parts(self):
        rows = [Reader("", "", rest, must, "none", False, False, False) for rest in (3, 2) for must in (False, True)]
        for one, other in product(rows, repeat=2):
            self.assertEqual([parting_many(one, other, length) for length in range(31)], [0] * 31)


class WrongValuesTest(unittest.TestCase):
    def test_no_reader(self):
        for value in VALUES:
            for rest in ((1, 0), (31, -1), (None, None), (True, True)):
                with self.assertRaises(BadReader):
                    text_at(value, *rest)
                for one, other in ((value, ONE), (ONE, value), (value, value)):
                    with self.assertRaises(BadReader):
                        parting_many(one, other, rest[0])
                    with self.assertRaises(BadReader):
                        parting_at(one, other, *rest)
            for text in ("1", 5, "1" * 101):
                with self.assertRaises(BadReader):
                    place_of(value, text)

    def test_no_length(self):
        for length in (-1, 31, 10 ** 20, True, False, None, "", "1", (), (1,), [], [1], {}, ONE):
            for index in (0, -1, None, True, 10 ** 40):
                with self.assertRaises(BadLength):
                    text_at(ONE, length, index)
                with self.assertRaises(BadLength):
                    parting_at(ONE, OTHER, length, index)
            with self.assertRaises(BadLength):
                parting_many(ONE, OTHER, length)

    def test_no_index(self):
        for index in NO_INDICES + [-1, -10 ** 40, 10, 10 ** 40]:
            with self.assertRaises(BadIndex, msg=index):
                text_at(ONE, 1, index)
        for index in NO_INDICES + [-1, 200, 201, 10 ** 40]:
            with self.assertRaises(BadIndex, msg=index):
                parting_at(ONE, OTHER, 3, index)

    def test_no_text(self):
        for value in [value for value in VALUES if not isinstance(value, str)] + ["1" * 101, ONE]:
            with self.assertRaises(BadText):
                place_of(ONE, value)

    def test_equal_calls(self):
        for function, arguments in ((text_at, (ONE, 7, 12345)), (place_of, (ONE, "1,234.5")),
                                    (parting_many, (ONE, OTHER, 9)), (parting_at, (ONE, OTHER, 9, 999))):
            self.assertEqual(function(*arguments), function(*arguments))


class InterfaceTest(unittest.TestCase):
    def test_where_it_is_defined(self):
        for function in (text_at, place_of, parting_many, parting_at):
            self.assertEqual(function.__module__, "readersapart.ranks")

    def test_by_keyword(self):
        self.assertEqual(
            [text_at(reader=ONE, length=1, index=9), place_of(reader=ONE, text="9"),
             parting_many(one=ONE, other=OTHER, length=3), parting_at(one=ONE, other=OTHER, length=3, index=0)],
            ["9", 9, 200, "0,0"])

    def test_examples(self):
        self.assertEqual([text_at(ONE, 1, 9), text_at(ONE, 2, 0), text_at(ONE, 2, 10), place_of(ONE, "10"),
                          place_of(ONE, "01")], ["9", "-0", "10", 10, None])
        self.assertEqual([parting_many(ONE, OTHER, 1), parting_many(ONE, OTHER, 3), parting_at(ONE, OTHER, 3, 0),
                          parting_at(ONE, OTHER, 3, 199)], [0, 200, "0,0", "9.9"])


if __name__ == "__main__":
    unittest.main()
