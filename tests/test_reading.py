import unittest
from itertools import product

from readersapart.errors import BadReader, BadText, NotTaken
from readersapart.readers import Reader, parts
from readersapart.reading import first_stop, means, takes
from tests.grammar import all_parts, all_texts, beginnings, stop, taken, worth_of

ENGLISH = Reader(".", ",", 3, False, "ahead", False, False, False)
GERMAN = Reader(",", ".", 3, False, "ahead", False, False, True)

# Readers that have each part in each way, beside each other one in some way.
CHOSEN = [
    (".", ",", 3, False, "ahead", False, False, False),
    (",", ".", 2, True, "behind", True, True, True),
    ("", "'", 2, False, "none", True, False, True),
    (".", " ", 3, True, "behind", False, False, True),
    (",", "", 3, True, "ahead", True, True, False),
    ("", " ", 2, True, "ahead", True, False, True),
    (".", ",", 2, False, "behind", False, True, True),
    ("", "", 3, False, "none", False, False, False),
    (",", "'", 3, True, "none", True, True, True),
    (".", ",", 2, True, "none", False, False, True),
]


def reader_with(**changes):
    told = dict(point=".", comma=",", rest=3, must=False, sign="none", zeros=False, blanks=False, exponent=False)
    told.update(changes)
    return Reader(**told)


class Compared(unittest.TestCase):
    def assert_read_alike(self, reader, text, texts, starts):
        """Compare all that is told of a text with the grammar's texts and beginnings."""
        at = stop(text, texts, starts)
        told = (parts(reader), text)
        self.assertEqual(first_stop(reader, text), at, told)
        self.assertIs(takes(reader, text), at is None, told)
        if at is None:
            self.assert_means(reader, text, texts[text])
        else:
            with self.assertRaises(NotTaken, msg=told) as caught:
                means(reader, text)
            self.assertEqual(caught.exception.at, at, told)

    def assert_means(self, reader, text, worth):
        number = means(reader, text)
        told = (parts(reader), text, number)
        self.assertEqual([type(number), type(number[0]), type(number[1]), len(number)], [tuple, int, int, 2], told)
        self.assertEqual(worth_of(number), worth, told)
        self.assertTrue(number[0] % 10 != 0 or number == (0, 0), told)


class TrialTest(Compared):
    """Nothing that goes on at all needs more than three further signs."""

    def test_all_readers_on_short_texts(self):
        tried = all_texts("01.,' -ex", 3)
        for told in all_parts():
            texts = taken(told, "01", 6)
            starts = beginnings(texts)
            reader = Reader(*told)
            for text in tried:
                self.assertEqual(first_stop(reader, text), stop(text, texts, starts), (told, text))

    def test_all_readers_on_what_they_take(self):
        for told in all_parts():
            reader = Reader(*told)
            for text, worth in taken(told, "05", 5).items():
                self.assertTrue(takes(reader, text), (told, text))
                self.assert_means(reader, text, worth)

    def test_chosen_readers_on_longer_texts(self):
        for told in CHOSEN:
            texts = taken(told, "01", 8)
            starts = beginnings(texts)
            signs = "".join(sorted({"0", "1", "-", "e", " ", told[0], told[1]}))
            reader = Reader(*told)
            for text in all_texts(signs, 5):
                self.assert_read_alike(reader, text, texts, starts)

    def test_groups(self):
        for told in product([".", ""], [",", " "], [3, 2], [False, True], ["none"], [False], [False], [False]):
            texts = taken(told, "1", 14)
            starts = beginnings(texts)
            for text in all_texts("1" + told[1], 11):
                self.assert_read_alike(Reader(*told), text, texts, starts)

    def test_exponents(self):
        for zeros, sign in product([False, True], ["none", "ahead", "behind"]):
            told = (".", "", 3, False, sign, zeros, False, True)
            texts = taken(told, "02", 10)
            starts = beginnings(texts)
            for start in ("2", "2.0", "0"):
                for end in all_texts("02e-", 5):
                    self.assert_read_alike(Reader(*told), start + end, texts, starts)

    def test_one_sign_changed(self):
        for told in CHOSEN:
            texts = taken(told, "04", 11)
            starts = beginnings(texts)
            for text in sorted(text for text in texts if len(text) == 8)[::41]:
                for at, sign in product(range(8), "04.,' -ex\n"):
                    changed = text[:at] + sign + text[at + 1:]
                    self.assert_read_alike(Reader(*told), changed, texts, starts)


class WholesTest(unittest.TestCase):
    def assert_taken(self, reader, told):
        """Told is a dict from texts to their numbers, None for those that are not taken."""
        for text, number in told.items():
            self.assertIs(takes(reader, text), number is not None, text)
            if number is not None:
                self.assertEqual(means(reader, text), number, text)

    def test_groups_of_three(self):
        self.assert_taken(reader_with(), {
            "1": (1, 0), "12": (12, 0), "123": (123, 0), "1234": (1234, 0), "1234567": (1234567, 0),
            "1,234": (1234, 0), "12,345": (12345, 0), "123,456": (123456, 0), "1,234,567": (1234567, 0),
            "1234,567": None, "1,23": None, "1,2345": None, "12,34,567": None, "1,,234": None, ",123": None,
            "123,": None, "1,2,345": None, "1,234.5": (12345, -1), "1,234567": None, "": None,
        })

    def test_groups_of_two(self):
        self.assert_taken(reader_with(rest=2), {
            "1,234": (1234, 0), "12,345": (12345, 0), "123,456": None, "1,23,456": (123456, 0),
            "12,34,567": (1234567, 0), "1,234,567": None, "1,23": None, "1,23,45": None, "12,34,5678": None,
            "1,2,345": None, "123456": (123456, 0), "1,23,45,678": (12345678, 0),
        })

    def test_must(self):
        for comma in (",", "'", " "):
            reader = reader_with(comma=comma, must=True)
            self.assert_taken(reader, {
                "123": (123, 0), "1234": None, f"1{comma}234": (1234, 0), "1234.5": None,
                f"1{comma}234.5": (12345, -1), "0.12345": (12345, -5),
            })
            self.assertEqual(first_stop(reader, "1234"), 3)
        self.assert_taken(reader_with(comma="", must=True), {"1234": (1234, 0), "123456.5": (1234565, -1)})

    def test_noughts_ahead(self):
        self.assert_taken(reader_with(), {
            "0": (0, 0), "00": None, "01": None, "0,123": None, "0.00": (0, 0), "00.1": None, "0123": None,
        })
        self.assert_taken(reader_with(zeros=True), {
            "0": (0, 0), "00": (0, 0), "01": (1, 0), "0,123": (123, 0), "00.1": (1, -1), "000,000": (0, 0),
            "007": (7, 0), "0000": (0, 0),
        })
        self.assert_taken(reader_with(zeros=True, must=True), {"007": (7, 0), "0007": None, "0,007": (7, 0)})

    def test_sign(self):
        self.assert_taken(reader_with(sign="none"), {"5": (5, 0), "-5": None, "5-": None})
        self.assert_taken(reader_with(sign="ahead"), {
            "5": (5, 0), "-5": (-5, 0), "5-": None, "--5": None, "-": None, "-5-": None, "-0": (0, 0),
            "-1,234.50": (-12345, -1), "+5": None,
        })
        self.assert_taken(reader_with(sign="behind"), {
            "5": (5, 0), "-5": None, "5-": (-5, 0), "5--": None, "-": None, "0-": (0, 0), "1.50-": (-15, -1),
            "5-5": None,
        })

    def test_blanks(self):
        self.assert_taken(reader_with(blanks=True, sign="ahead"), {
            " 5": (5, 0), "5 ": (5, 0), "   5    ": (5, 0), " -5 ": (-5, 0), "- 5": None, " ": None, "5 5": None,
            "1, 234": None, "\t5": None, "5\n": None,
        })
        self.assert_taken(reader_with(blanks=True, sign="behind"), {"5-  ": (-5, 0), "5 -": None, " 5-": (-5, 0)})
        self.assert_taken(reader_with(), {" 5": None, "5 ": None, "5": (5, 0)})
        self.assert_taken(reader_with(comma=" "), {"1 234": (1234, 0), " 5": None, "5 ": None, "1  234": None})

    def test_exponents(self):
        self.assert_taken(reader_with(exponent=True, sign="behind"), {
            "5e1": (5, 1), "5e-1": (5, -1), "5e12": (5, 12), "5e-12": (5, -12), "5e123": None, "5e": None,
            "5e-": None, "5e0": (5, 0), "5e-0": (5, 0), "5e00": None, "5e01": None, "5e-01": None, "5e10": (5, 10),
            "5E1": None, "5e+1": None, "e1": None, "5e1.5": None, "5e--1": None, "5e1e1": None, "5e-3-": (-5, -3),
            "1.25e2": (125, 0), "1,000e3": (1, 6), "5.e1": None, "5-e1": None, "5 e1": None, "0e5": (0, 0),
        })
        self.assert_taken(reader_with(exponent=True, zeros=True), {
            "5e00": (5, 0), "5e01": (5, 1), "5e-01": (5, -1), "5e001": None, "05e99": (5, 99),
        })
        self.assert_taken(reader_with(), {"5e1": None})

    def test_points(self):
        self.assert_taken(reader_with(), {"5.": None, ".5": None, "5.5": (55, -1), "5.5.5": None, "1.234,5": None})
        self.assert_taken(reader_with(point=""), {"5.5": None, "5": (5, 0), "1,234": (1234, 0), "1,234.5": None})
        self.assert_taken(reader_with(point=",", comma=""), {"5,5": (55, -1), "1,234": (1234, -3), "5.5": None})

    def test_needless_noughts(self):
        self.assert_taken(reader_with(sign="ahead", exponent=True), {
            "100": (1, 2), "1.500": (15, -1), "1.000": (1, 0), "10.0e3": (1, 4), "-120e-1": (-12, 0),
            "-0.00": (0, 0), "0e99": (0, 0), "0.000e-99": (0, 0), "-20": (-2, 1), "1010": (101, 1),
        })

    def test_other_figures_and_signs(self):
        strange = ("\u0661", "\uff11", "\u00b2", "1\u0660", "\u22125", "x", "1x", "1\x00", "1_000", "\u2009", "\ud800")
        for text in strange:
            for told in CHOSEN:
                self.assertEqual(first_stop(Reader(*told), text), 1 if text[0] == "1" else 0)


class LongTextsTest(unittest.TestCase):
    def test_a_hundred_signs(self):
        nines = "9" * 100
        self.assertEqual(means(ENGLISH, nines), (10 ** 100 - 1, 0))
        self.assertEqual(means(ENGLISH, "1" + "0" * 99), (1, 99))
        self.assertEqual(means(ENGLISH, "0." + "0" * 97 + "1"), (1, -98))
        self.assertEqual(means(GERMAN, "-" + "1" * 95 + "e-99"), (-int("1" * 95), -99))
        self.assertEqual(means(reader_with(blanks=True), " " * 50 + "7" + " " * 49), (7, 0))
        self.assertEqual(means(ENGLISH, "1" + ",000" * 24 + ".50"), (10 ** 73 + 5, -1))
        self.assertEqual(first_stop(ENGLISH, "9" * 99 + "x"), 99)
        self.assertEqual(first_stop(ENGLISH, "x" * 100), 0)

    def test_more_than_a_hundred_signs(self):
        for text in ("9" * 101, "x" * 101, " " * 101, "1" * 1000):
            for function in (takes, first_stop, means):
                with self.assertRaises(BadText):
                    function(reader_with(blanks=True), text)

    def test_a_beginning_that_needs_more_than_a_hundred_signs(self):
        # A text has at most 100 signs, also one that the reader takes.
        whole = "1" * 98
        self.assertEqual(first_stop(ENGLISH, whole + "."), 99)
        self.assertEqual(first_stop(ENGLISH, whole + "1."), 99)
        self.assertEqual(first_stop(GERMAN, whole + "e-"), 99)
        self.assertEqual(first_stop(reader_with(blanks=True), " " * 99), 99)
        self.assertEqual(first_stop(reader_with(blanks=True), " " * 100), 99)
        groups = "1" + ",111" * 24
        self.assertEqual(len(groups), 97)
        self.assertEqual(first_stop(ENGLISH, groups + ","), 97)
        self.assertEqual(first_stop(ENGLISH, groups + ",11"), 97)
        with self.assertRaises(NotTaken) as caught:
            means(ENGLISH, groups + ",1")
        self.assertEqual(caught.exception.at, 97)


class WrongValuesTest(unittest.TestCase):
    VALUES = [0, 5, -1, True, False, None, (), ("5",), [], ["5"], {}, {"5": 5}]

    def test_no_reader(self):
        for function in (takes, first_stop, means):
            for value in self.VALUES + ["", "5", parts(ENGLISH)]:
                for text in self.VALUES + ["5", "x", "9" * 101]:
                    with self.assertRaises(BadReader):
                        function(value, text)

    def test_no_text(self):
        for function in (takes, first_stop, means):
            for value in self.VALUES + [ENGLISH]:
                with self.assertRaises(BadText):
                    function(ENGLISH, value)

    def test_nothing_is_changed(self):
        wrong = ["5"]
        before = parts(ENGLISH)
        for text in ("1,234", "1,23", wrong, "9" * 101):
            for function in (takes, first_stop, means):
                told = []
                for _ in range(2):
                    try:
                        told.append(function(ENGLISH, text))
                    except (BadText, NotTaken) as error:
                        told.append((type(error), vars(error)))
                self.assertEqual(told[0], told[1])
        self.assertEqual(wrong, ["5"])
        self.assertEqual(parts(ENGLISH), before)


class InterfaceTest(unittest.TestCase):
    def test_where_it_is_defined(self):
        for function in (takes, first_stop, means):
            self.assertEqual(function.__module__, "readersapart.reading")

    def test_by_keyword(self):
        self.assertEqual(
            [takes(reader=ENGLISH, text="1"), first_stop(reader=ENGLISH, text="x"), means(reader=ENGLISH, text="1")],
            [True, 0, (1, 0)])

    def test_first_example(self):
        self.assertEqual(
            [takes(ENGLISH, "1,234.5"), means(ENGLISH, "1,234.5"), first_stop(ENGLISH, "1,23"),
             first_stop(ENGLISH, "1,2345"), first_stop(ENGLISH, "007")],
            [True, (12345, -1), 4, 5, 1])

    def test_second_example(self):
        self.assertEqual(
            [means(ENGLISH, "1.234"), means(GERMAN, "1.234"), means(GERMAN, "-12,50e2"), means(GERMAN, "0e5"),
             takes(GERMAN, "5-")],
            [(1234, -3), (1234, 0), (-125, 1), (0, 0), False])


if __name__ == "__main__":
    unittest.main()
