import unittest
from itertools import product

from readersapart.errors import BadNumber, BadReader, BadReaders, NotTaken
from readersapart.readers import Reader, parts
from readersapart.reading import first_stop, means, takes
from readersapart.writing import misread, shortest, written
from tests.grammar import all_parts, taken, worth_of
from tests.trial import VALUES, in_order, least, trials, written_by_trial

ENGLISH = Reader(".", ",", 3, False, "ahead", False, False, True)
GERMAN = Reader(",", ".", 3, False, "ahead", False, False, True)
INDIAN = Reader(".", ",", 2, True, "behind", False, False, False)

# Values that are no numbers as [8] has them.
NO_NUMBERS = [value for value in VALUES if value != (1, 0)] + [
    (0, 1), (0, -1), (10, 0), (-10, 0), (100, -2), (10 ** 30, 0), (-10 ** 30, 0), (10 ** 30 + 1, 0),
    (-10 ** 30 - 1, 0), (1, 31), (1, -31), (-7, 10 ** 40), (10 ** 40 + 1, 0), [1, 0], [0, 0], (1,), (1, 0, 0),
    (True, 0), (1, True), (1, False), (False, 0), (0, False), (False, False), (1, None), (None, 0), ("1", 0),
    (1, "0"), ((1, 0), 0), "10", {1: 0, 2: 0}, ENGLISH,
]


def reader_with(**changes):
    told = dict(point=".", comma=",", rest=3, must=False, sign="ahead", zeros=False, blanks=False, exponent=False)
    told.update(changes)
    return Reader(**told)


def some_numbers():
    """Numbers of all kinds: short and long ones, whole and not, at the limits and about them."""
    figures = [1, 2, 9, 11, 15, 123, 999, 1001, 1234, 12345, 123456, 1234567, 10 ** 30 - 1, 10 ** 29 + 1,
               123456789012345678901234567891]
    powers = [-30, -29, -10, -9, -4, -3, -2, -1, 0, 1, 2, 3, 4, 9, 10, 11, 29, 30]
    return [(0, 0)] + [(turn * n, k) for n, k, turn in product(figures, powers, (1, -1))]


def texts_with_many_exponents(reader, number):
    """What the reader could write for a number, with each exponent of many, in groups and not."""
    n, k = number
    for power, comma in product(range(k - 30, k + 31), ("", reader.comma)):
        writer = Reader(reader.point, comma, *parts(reader)[2:])
        text = written(writer, (n, k - power))
        if text is not None:
            body = text.rstrip("-")
            yield body + (f"e{power}" if power else "") + text[len(body):]


class WrittenTest(unittest.TestCase):
    def test_all_readers_by_trial(self):
        for told in all_parts():
            texts = taken(told, "01", 5)
            for worth, text in written_by_trial(told, texts).items():
                number = means(Reader(*told), text)
                self.assertEqual(worth_of(number), worth)
                self.assertEqual(written(Reader(*told), number), text, (told, number))

    def test_longer_texts_by_trial(self):
        for told in product(["", ".", ","], ["", "'"], [3, 2], [False, True], ["none", "behind"], [False], [False],
                            [False]):
            for worth, text in written_by_trial(told, taken(told, "01", 9)).items():
                number = means(Reader(*told), text)
                self.assertEqual(written(Reader(*told), number), text, (told, number))

    def test_as_python_writes_it(self):
        for n, k in some_numbers():
            reader = reader_with()
            whole, rest = divmod(abs(n) * 10 ** (k + 30), 10 ** 30)
            behind = f"{rest:030d}".rstrip("0")
            text = ("-" if n < 0 else "") + f"{whole:,}" + ("." + behind if behind else "")
            self.assertEqual(written(reader, (n, k)), text)
            self.assertEqual(written(reader_with(comma=""), (n, k)), text.replace(",", ""))
            turned = text.replace(",", " ").replace(".", ",")
            self.assertEqual(written(reader_with(point=",", comma=" "), (n, k)), turned)

    def test_what_is_written_is_taken_as_it_is(self):
        for told in all_parts():
            for number in some_numbers()[::7]:
                text = written(Reader(*told), number)
                if text is not None:
                    self.assertEqual(means(Reader(*told), text), number, told)

    def test_groups(self):
        numbers = [(1, 0), (12, 0), (123, 0), (1234, 0), (12345, 0), (123456, 0), (1234567, 0), (12345678, 0)]
        self.assertEqual([written(reader_with(), number) for number in numbers],
                         ["1", "12", "123", "1,234", "12,345", "123,456", "1,234,567", "12,345,678"])
        self.assertEqual([written(INDIAN, number) for number in numbers],
                         ["1", "12", "123", "1,234", "12,345", "1,23,456", "12,34,567", "1,23,45,678"])
        self.assertEqual([written(reader_with(comma="", must=True), number) for number in numbers[3:5]],
                         ["1234", "12345"])
        self.assertEqual(written(reader_with(comma="'"), (12345678, -4)), "1'234.5678")
        self.assertEqual(written(reader_with(), (1, 3)), "1,000")

    def test_points(self):
        self.assertEqual([written(reader_with(), number) for number in ((5, -1), (-5, -3), (15, -1), (1005, -3))],
                         ["0.5", "-0.005", "1.5", "1.005"])
        without = reader_with(point="")
        self.assertEqual([written(without, number) for number in ((5, -1), (-5, -3), (10001, -1))], [None] * 3)
        self.assertEqual([written(without, number) for number in ((5, 0), (-5, 3), (0, 0))], ["5", "-5,000", "0"])
        self.assertEqual(written(reader_with(exponent=True), (1, 30)), "1" + ",000" * 10)
        self.assertEqual(written(reader_with(exponent=True), (1, -30)), "0." + "0" * 29 + "1")

    def test_signs(self):
        for sign, texts in (("none", [None, None, "5", "0"]), ("ahead", ["-5", "-0.5", "5", "0"]),
                            ("behind", ["5-", "0.5-", "5", "0"])):
            reader = reader_with(sign=sign)
            self.assertEqual([written(reader, number) for number in ((-5, 0), (-5, -1), (5, 0), (0, 0))], texts)
        self.assertIsNone(written(reader_with(point="", sign="none"), (-5, -1)))

    def test_at_the_limits(self):
        for reader in (ENGLISH, GERMAN, INDIAN):
            for n, k in product((10 ** 30 - 1, 1 - 10 ** 30), (-30, 30)):
                self.assertEqual(means(reader, written(reader, (n, k))), (n, k))
        longest = written(INDIAN, (1 - 10 ** 30, 30))
        self.assertEqual([longest[:8], longest[-8:], len(longest)], ["9,99,99,", ",00,000-", 90])


class MisreadTest(unittest.TestCase):
    CHOSEN = [
        (".", ",", 3, False, "ahead", False, False, False),
        (",", ".", 3, False, "ahead", True, False, True),
        (".", ",", 2, True, "behind", True, True, True),
        ("", ".", 2, False, "none", True, False, False),
        (",", "'", 3, True, "ahead", False, True, True),
        ("", " ", 3, False, "none", False, False, True),
        (".", "", 2, True, "none", False, False, False),
    ]

    def test_many_numbers(self):
        for writer, reader in product(self.CHOSEN, repeat=2):
            for number in some_numbers() + [(n, k) for n in (1, 5, -12, 1001) for k in (-3, -2, 0, 3)]:
                self.assert_misread(Reader(*writer), Reader(*reader), number)

    def assert_misread(self, writer, reader, number):
        told = (parts(writer), parts(reader), number)
        text = written(writer, number)
        if text is None:
            self.assertIsNone(misread(writer, reader, number), told)
        elif first_stop(reader, text) is None:
            self.assertEqual(misread(writer, reader, number), means(reader, text), told)
        else:
            with self.assertRaises(NotTaken, msg=told) as caught:
                misread(writer, reader, number)
            self.assertEqual(caught.exception.at, first_stop(reader, text), told)

    def test_by_trial(self):
        texts = trials(self.CHOSEN, "01", 6)
        for writer, reader in product(self.CHOSEN, repeat=2):
            for text in written_by_trial(writer, texts[writer]).values():
                if text in texts[reader]:
                    number = misread(Reader(*writer), Reader(*reader), means(Reader(*writer), text))
                    self.assertEqual(worth_of(number), texts[reader][text], (writer, reader, text))

    def test_by_a_thousand(self):
        self.assertEqual([misread(GERMAN, ENGLISH, (1234, 0)), misread(GERMAN, ENGLISH, (1234, -3))],
                         [(1234, -3), (1234, 0)])
        self.assertEqual([misread(GERMAN, ENGLISH, (1, 3)), misread(ENGLISH, GERMAN, (-1, 3))], [(1, 0), (-1, 0)])
        self.assertEqual(misread(ENGLISH, INDIAN, (123, 0)), (123, 0))

    def test_not_taken(self):
        # "0,5", "1,5", "0,005", "1,234,5", "1.000.000" and "-5", each up to where the reader stops.
        for writer, reader, number, at in (
            (GERMAN, ENGLISH, (5, -1), 1), (GERMAN, ENGLISH, (15, -1), 3), (GERMAN, ENGLISH, (5, -3), 1),
            (GERMAN, ENGLISH, (12345, -1), 5), (GERMAN, ENGLISH, (1, 6), 5), (ENGLISH, INDIAN, (-5, 0), 0),
        ):
            with self.assertRaises(NotTaken) as caught:
                misread(writer, reader, number)
            self.assertEqual(caught.exception.at, at, number)

    def test_not_written(self):
        without = reader_with(point="", sign="none")
        for number in ((-5, 0), (5, -1), (-5, -1)):
            self.assertIsNone(misread(without, ENGLISH, number))
        with self.assertRaises(NotTaken):
            misread(ENGLISH, without, (-5, 0))


class ShortestTest(unittest.TestCase):
    LOTS = [
        [(".", ",", 3, False, "ahead", False, False, True)],
        [(".", ",", 3, True, "ahead", False, False, False)],
        [("", "'", 2, True, "behind", True, True, True)],
        [(",", "", 3, False, "none", True, True, True)],
        [(".", ",", 3, False, "ahead", False, False, True), (",", ".", 3, False, "ahead", False, False, True)],
        [(",", ".", 3, True, "behind", True, True, True), (".", ",", 2, True, "behind", True, True, True)],
        [(".", ",", 3, True, "none", True, True, False), (".", ",", 2, True, "ahead", True, True, True)],
        [(".", ",", 3, True, "none", True, True, True), (".", "'", 2, True, "behind", False, True, True)],
        [("", " ", 3, True, "ahead", True, False, True), (".", " ", 3, False, "ahead", True, False, True)],
        [(".", " ", 2, True, "behind", True, False, False), (",", " ", 2, True, "behind", True, False, True)],
        [("", "", 3, True, "ahead", True, True, True), (".", "", 3, True, "ahead", False, True, True),
         (",", ".", 3, False, "ahead", True, False, True)],
        [(".", ",", 3, False, "ahead", True, True, True), (".", "'", 3, False, "ahead", True, False, True),
         (".", " ", 3, False, "ahead", False, False, True), (".", "", 3, True, "ahead", True, True, True)],
        [(".", ",", 3, False, "ahead", False, False, False), (",", ".", 3, False, "behind", False, False, False)],
    ]

    def trial(self, many, figures, longest):
        """A dict from worths to the first text that all readers take as it."""
        texts = trials(many, figures, longest)
        rows = [texts[told] for told in many]
        found = {}
        for text in in_order(rows[0]):
            if all(text in row and row[text] == rows[0][text] for row in rows):
                found.setdefault(rows[0][text], text)
        return found

    def numbers(self):
        small = [n for n in range(-21, 112, 2) if n % 10] + [1001, -1234, 12005, 123456, 100001, -1011]
        return [(0, 0)] + [(n, k) for n in small for k in (-12, -10, -9, -4, -3, -2, -1, 0, 1, 2, 3, 4, 9, 10, 11, 12)]

    def assert_as_trial(self, many, found, figures, longest):
        readers = [Reader(*told) for told in many]
        for number in self.numbers():
            answer = shortest(readers, number)
            tried = found.get(worth_of(number))
            told = (many, number, answer, tried)
            known = answer is not None and len(answer) <= longest
            if known and all(sign in figures for sign in answer if sign in "0123456789"):
                self.assertEqual(answer, tried, told)
            elif tried is not None:
                self.assertTrue(known and (len(answer), answer) < (len(tried), tried), told)
            if answer is not None:
                self.assertEqual([means(reader, answer) for reader in readers], [number] * len(readers), told)

    def test_all_texts_of_four_signs(self):
        for many in self.LOTS[:2] + self.LOTS[4:5] + self.LOTS[7:8] + self.LOTS[10:11]:
            self.assert_as_trial(many, self.trial(many, "0123456789", 4), "0123456789", 4)

    def test_longer_texts(self):
        for many in self.LOTS:
            self.assert_as_trial(many, self.trial(many, "015", 6), "015", 6)

    def test_long_groups(self):
        for many in self.LOTS[1:3] + self.LOTS[5:10]:
            self.assert_as_trial(many, self.trial(many, "01", 9), "01", 9)

    def test_without_a_point_or_a_sign(self):
        self.assertEqual([shortest([reader_with(point="")], number) for number in ((5, -1), (-5, 0), (5, 3))],
                         [None, "-5", "5000"])
        self.assertEqual(shortest([reader_with(point="", exponent=True)], (5, -1)), "5e-1")
        self.assertEqual(shortest([reader_with(), reader_with(sign="none")], (-5, 0)), None)
        self.assertEqual(shortest([reader_with(), reader_with(sign="behind")], (-5, 0)), None)
        self.assertEqual(shortest([reader_with(), reader_with(sign="behind")], (5, 0)), "5")

    def test_groups(self):
        must = reader_with(must=True)
        self.assertEqual([shortest([must], (1, 3)), shortest([must, reader_with()], (1, 3))], ["1,000", "1,000"])
        self.assertEqual(shortest([reader_with(rest=2)], (1, 5)), "100000")
        both = [must, reader_with(must=True, rest=2)]
        self.assertEqual([shortest(both, (12345, 0)), shortest(both, (123456, 0))], ["12,345", None])
        self.assertEqual(shortest([must, reader_with(must=True, comma="'")], (1, 3)), None)
        self.assertEqual(shortest([must, reader_with(comma="")], (1, 3)), None)
        self.assertEqual(shortest([must, reader_with(comma="")], (12345, -2)), "123.45")

    def test_exponents(self):
        reader = reader_with(exponent=True)
        self.assertEqual(
            [shortest([reader], number) for number in ((1, 2), (1, 3), (1, 10), (1, -3), (1, -2), (1, -10), (12, 10))],
            ["100", "1e3", "10e9", "1e-3", "0.01", "1e-10", "120e9"])
        self.assertEqual(shortest([reader_with(exponent=True, must=True)], (1, 4)), "1e4")
        self.assertEqual(shortest([reader, reader_with()], (1, 4)), "10000")

    def test_the_least_of_the_shortest(self):
        # Of "1.2345e-8", "12.345e-9" and "12345e-12", all of nine signs, the first one is the least.
        self.assertEqual(shortest([reader_with(exponent=True)], (12345, -12)), "1.2345e-8")
        self.assertEqual(shortest([reader_with(exponent=True, point="")], (12345, -12)), "12345e-12")
        self.assertEqual(shortest([reader_with(exponent=True, point=",", comma="")], (12, -10)), "1,2e-9")

    def test_at_the_limits(self):
        for many in self.LOTS:
            readers = tuple(Reader(*told) for told in many)
            for number in some_numbers():
                answer = shortest(readers, number)
                if answer is not None:
                    self.assertEqual([means(reader, answer) for reader in readers], [number] * len(readers))
        n = 123456789012345678901234567891
        self.assertEqual(shortest([reader_with()], (n, -30)), "0." + str(n))
        self.assertEqual(shortest([reader_with()], (-n, 30)), "-" + str(n) + "0" * 30)
        self.assertEqual(shortest([reader_with(exponent=True)], (n, 30)), str(n) + "e30")
        self.assertEqual(shortest([reader_with(exponent=True, point="")], (-n, -30)), "-" + str(n) + "e-30")
        self.assertEqual(shortest([INDIAN], (-n, 30)), written(INDIAN, (-n, 30)))

    def test_many_exponents(self):
        for many in self.LOTS:
            readers = [Reader(*told) for told in many]
            for number in some_numbers()[1::7]:
                texts = [text for text in texts_with_many_exponents(readers[0], number)
                         if all(takes(reader, text) and means(reader, text) == number for reader in readers)]
                self.assertEqual(shortest(readers, number), least(texts), (many, number))

    def test_in_any_order(self):
        for many in self.LOTS:
            readers = [Reader(*told) for told in many]
            for number in self.numbers()[::17]:
                self.assertEqual(shortest(readers[::-1], number), shortest(readers, number))
                self.assertEqual(shortest((readers * 4)[:4], number), shortest(tuple(readers), number))


class WrongValuesTest(unittest.TestCase):
    def test_no_reader(self):
        for value in VALUES + [parts(ENGLISH), [ENGLISH]]:
            for number in ((1, 0), (0, 1), None):
                with self.assertRaises(BadReader):
                    written(value, number)
                for writer, reader in ((value, ENGLISH), (ENGLISH, value), (value, value)):
                    with self.assertRaises(BadReader):
                        misread(writer, reader, number)

    def test_no_readers(self):
        for number in ((1, 0), (0, 1), None):
            for value, index in (([], None), ((), None), ([ENGLISH] * 5, None), (ENGLISH, None), (None, None),
                                 ("1", None), ({}, None), ([5], 0), ((ENGLISH, True), 1), ([ENGLISH, GERMAN, []], 2)):
                with self.assertRaises(BadReaders) as caught:
                    shortest(value, number)
                self.assertEqual(caught.exception.index, index)

    def test_no_number(self):
        for number in NO_NUMBERS:
            with self.assertRaises(BadNumber, msg=number):
                written(ENGLISH, number)
            with self.assertRaises(BadNumber, msg=number):
                misread(ENGLISH, GERMAN, number)
            with self.assertRaises(BadNumber, msg=number):
                shortest([ENGLISH, GERMAN], number)

    def test_no_number_ahead_of_what_is_not_written(self):
        with self.assertRaises(BadNumber):
            written(reader_with(sign="none"), (-10, 0))
        with self.assertRaises(BadNumber):
            misread(reader_with(sign="none"), ENGLISH, (-5, 31))

    def test_nothing_is_changed(self):
        readers = [ENGLISH, GERMAN]
        self.assertEqual(shortest(readers, (15, -1)), shortest(readers, (15, -1)))
        with self.assertRaises(BadNumber):
            shortest(readers, [15, -1])
        self.assertEqual(readers, [ENGLISH, GERMAN])
        self.assertEqual(len(readers), 2)
        for _ in range(2):
            with self.assertRaises(NotTaken):
                misread(GERMAN, ENGLISH, (5, -1))
        self.assertEqual(parts(ENGLISH), (".", ",", 3, False, "ahead", False, False, True))


class InterfaceTest(unittest.TestCase):
    def test_where_it_is_defined(self):
        for function in (written, misread, shortest):
            self.assertEqual(function.__module__, "readersapart.writing")

    def test_by_keyword(self):
        self.assertEqual(
            [written(reader=ENGLISH, number=(1, 0)), misread(writer=GERMAN, reader=ENGLISH, number=(1, 3)),
             shortest(readers=[ENGLISH], number=(1, 0))],
            ["1", (1, 0), "1"])

    def test_first_example(self):
        self.assertEqual(
            [written(ENGLISH, (12345, -1)), written(INDIAN, (-1234567, 0)), written(GERMAN, (5, -3)),
             misread(GERMAN, ENGLISH, (1234, 0)), written(ENGLISH, (1, 6))],
            ["1,234.5", "12,34,567-", "0,005", (1234, -3), "1,000,000"])

    def test_second_example(self):
        self.assertEqual(
            [shortest([ENGLISH, GERMAN], (15, -1)), shortest([ENGLISH], (15, -1)), shortest([INDIAN], (1, 3)),
             shortest([ENGLISH, GERMAN], (1, 6)), shortest([GERMAN, INDIAN], (15, -1))],
            ["15e-1", "1.5", "1,000", "1e6", None])


if __name__ == "__main__":
    unittest.main()
