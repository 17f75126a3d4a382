import unittest
from itertools import product

from readersapart.edits import edits, nearest
from readersapart.errors import BadReader, BadText
from readersapart.readers import Reader, parts
from readersapart.reading import takes
from tests.grammar import all_parts, all_texts, taken
from tests.trial import VALUES, least

ONE = Reader(".", ",", 3, False, "ahead", False, False, False)

CHOSEN = [
    (".", ",", 3, False, "ahead", False, False, False),
    (",", ".", 3, True, "behind", True, False, True),
    (".", ",", 2, True, "ahead", False, True, True),
    ("", ".", 2, False, "none", True, False, False),
    ("", " ", 3, True, "none", False, False, True),
    (".", "", 2, True, "behind", False, True, False),
]


def reader_with(**changes):
    told = dict(point=".", comma=",", rest=3, must=False, sign="none", zeros=False, blanks=False, exponent=False)
    told.update(changes)
    return Reader(**told)


def one_edit_more(texts, signs):
    """All texts that come of some by one edit, with these signs."""
    found = set()
    for text in texts:
        for at in range(len(text) + 1):
            found.update(text[:at] + sign + text[at:] for sign in signs)
            found.add(text[:at] + text[at + 1:])
            found.update(text[:at] + sign + text[at + 1:] for sign in signs if at < len(text))
    return found


def edits_by_trial(text, texts, signs):
    """The least number of edits, and the nearest text, told by a trial of all rows of edits."""
    found, many = {text}, 0
    while not found & texts:
        found, many = one_edit_more(found, signs), many + 1
    return many, least(found & texts)


def distance(one, other):
    """The least number of edits from one text to another, by the common table of their beginnings."""
    row = list(range(len(other) + 1))
    for at, sign in enumerate(one):
        behind = [at + 1]
        for place, wanted in enumerate(other):
            behind.append(min(row[place] + (sign != wanted), row[place + 1] + 1, behind[place] + 1))
        row = behind
    return row[-1]


def nearest_of(text, texts):
    """The least number of edits, and the nearest text, told by the distances from all texts."""
    distances = {other: distance(text, other) for other in texts}
    fewest = min(distances.values())
    return fewest, least(other for other in texts if distances[other] == fewest)


class EditsTest(unittest.TestCase):
    def assert_told(self, reader, text, told):
        self.assertEqual((edits(reader, text), nearest(reader, text)), told, (parts(reader), text))

    def test_all_rows_of_edits(self):
        for told in CHOSEN:
            signs = "".join(sorted({"0", "1", "-", "e", " ", told[0], told[1]}))
            texts = set(taken(told, "01", 6))
            for text in all_texts(signs + "x", 2):
                self.assert_told(Reader(*told), text, edits_by_trial(text, texts, signs))

    def test_all_readers(self):
        for told in all_parts()[::7]:
            texts = taken(told, "01", 4)
            for text in ("", "-", "1,", ".0", "e1", " ", "01", "x-"):
                self.assert_told(Reader(*told), text, nearest_of(text, texts))

    def test_longer_texts(self):
        for told in CHOSEN:
            texts = taken(told, "01", 7)
            rows = ["".join(row) for row in product(["1", "00", "-", told[0], told[1], "e", " "], repeat=4)]
            for text in rows[::29] + sorted(texts, key=lambda text: text[::-1])[::len(texts) // 20]:
                fewest, text_there = nearest_of(text, texts)
                if len(text) + fewest <= 7:
                    self.assert_told(Reader(*told), text, (fewest, text_there))

    def test_all_figures(self):
        for told in CHOSEN[:3]:
            texts = taken(told, "0123456789", 4)
            for text in ("", "7", "07", "7,", "7.8", "9-9", "e9", "45 ", "8,7", "-4,", "e-", "70"):
                fewest, text_there = nearest_of(text, texts)
                # Then no text that is not among these can be as near.
                if len(text) + fewest <= 4:
                    self.assert_told(Reader(*told), text, (fewest, text_there))

    def test_groups(self):
        must = reader_with(must=True, point="")
        for text, told in (
            ("1234", (1, "123")), ("1,234", (0, "1,234")), ("1234567", (1, "123,567")), ("1,23", (1, "123")),
            ("12,34,567", (1, "12,034,567")), ("123,45,678", (1, "123,045,678")), ("1,2345", (1, "1,234")),
            (",123", (1, "123")), ("123,", (1, "123")), ("1,,234", (1, "1,234")), ("4567", (1, "456")),
            ("12345678", (2, "123,567")),
        ):
            self.assert_told(must, text, told)
        self.assert_told(reader_with(must=True, point="", rest=2), "1,234,567", (1, "1,23,567"))

    def test_the_least_of_the_shortest(self):
        for text, told in (
            ("", "0"), ("x", "0"), ("5", "5"), ("05", "0"), ("50x", "50"), ("5x6", "56"), ("5.", "5"), (".5", "5"),
            ("x5", "5"), ("--", "0"), ("-x", "-0"), ("1,23", "123"), ("1..5", "1.5"), ("007", "0.7"), ("0075", "0.75"),
        ):
            fewest = edits(ONE, text)
            self.assertEqual(distance(text, nearest(ONE, text)), fewest, text)
            if text not in ("--", "007", "0075"):
                self.assertEqual(nearest(ONE, text), told, text)
        self.assertEqual([nearest(ONE, text) for text in ("05", "00", "0x", "x0")], ["0", "0", "0", "0"])

    def test_taken_just_if_there_are_none(self):
        texts = all_texts("01.,-e ", 4)
        for told in CHOSEN[::2]:
            reader = Reader(*told)
            for text in texts[::3]:
                fewest = edits(reader, text)
                self.assertEqual(fewest == 0, takes(reader, text), (told, text))
                self.assertLessEqual(fewest, max(len(text), 1), (told, text))
                if fewest == 0:
                    self.assertEqual(nearest(reader, text), text, told)

    def test_what_is_told_is_taken(self):
        rows = ["1,234,56", "--1", "1e1e1", "1.2.3.4", "00,00", "  1 2 ", "abc", "9" * 30, "1,2" * 9, "e-" * 20, "\u0661"]
        for told in all_parts()[::19]:
            reader = Reader(*told)
            for text in rows:
                found = nearest(reader, text)
                self.assertTrue(takes(reader, found), (told, text, found))
                self.assertEqual(distance(text, found), edits(reader, text), (told, text, found))

    def test_neighbours(self):
        # One edit more or less of a text is one edit more or less, or as many.
        for told in CHOSEN:
            reader = Reader(*told)
            for text in ("1,000.5e-7", "12 345", "-1.234,56", "00x1"):
                fewest = edits(reader, text)
                for other in one_edit_more([text], "0,x"):
                    self.assertLessEqual(abs(edits(reader, other) - fewest), 1, (told, text, other))

    def test_signs_that_no_reader_takes(self):
        for many in (1, 2, 7, 100):
            for sign in ("x", "\n", "\u0661", "+", "E"):
                self.assert_told(ONE, sign * many, (many, "0"))
        self.assert_told(ONE, "1x2", (1, "12"))
        self.assert_told(reader_with(zeros=True), "+5", (1, "5"))

    def test_the_longest(self):
        self.assert_told(ONE, "7" * 100, (0, "7" * 100))
        self.assert_told(ONE, "7" * 50 + "x" + "7" * 49, (1, "7" * 99))
        self.assert_told(ONE, "0" * 100, (1, "0." + "0" * 98))
        self.assert_told(reader_with(point=""), "0" * 99 + "1", (1, "1" + "0" * 98 + "1"))

    def test_what_is_told_is_a_text(self):
        # A figure more would do, but there would be 101 signs; so two figures and a comma go.
        must = reader_with(must=True, point="")
        text = "1" + ",123" * 12 + ",12" + ",123" * 12
        self.assertEqual(len(text), 100)
        self.assert_told(must, text, (3, "1" + ",123" * 11 + ",112" + ",123" * 12))
        self.assert_told(must, text[2:], (1, "123" + ",123" * 11 + ",012" + ",123" * 12))


class WrongValuesTest(unittest.TestCase):
    def test_no_reader(self):
        for value in VALUES:
            for text in ("1", 5, "1" * 101, None):
                for function in (edits, nearest):
                    with self.assertRaises(BadReader):
                        function(value, text)

    def test_no_text(self):
        for value in [value for value in VALUES if not isinstance(value, str)] + ["1" * 101, ONE]:
            for function in (edits, nearest):
                with self.assertRaises(BadText):
                    function(ONE, value)

    def test_equal_calls(self):
        for text in ("1,00", "x1", ""):
            self.assertEqual([edits(ONE, text), nearest(ONE, text)], [edits(ONE, text), nearest(ONE, text)])


class InterfaceTest(unittest.TestCase):
    def test_where_it_is_defined(self):
        for function in (edits, nearest):
            self.assertEqual(function.__module__, "readersapart.edits")

    def test_by_keyword(self):
        self.assertEqual([edits(reader=ONE, text="x"), nearest(reader=ONE, text="x")], [1, "0"])

    def test_examples(self):
        self.assertEqual(
            [edits(ONE, "1,00"), nearest(ONE, "1,00"), edits(ONE, ""), nearest(ONE, ""), edits(ONE, "12"),
             nearest(ONE, "12"), edits(ONE, "abc"), nearest(ONE, "abc")],
            [1, "100", 1, "0", 0, "12", 3, "0"])


if __name__ == "__main__":
    unittest.main()
