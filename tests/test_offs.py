import unittest
from fractions import Fraction
from itertools import product

from readersapart.errors import BadReader
from readersapart.offs import off
from readersapart.readers import Reader, parts
from readersapart.reading import means
from readersapart.writing import written
from tests.grammar import all_parts, taken, worth_of
from tests.trial import VALUES, off_by_trial, trials, written_by_trial

ENGLISH = Reader(".", ",", 3, False, "ahead", False, False, False)
GERMAN = Reader(",", ".", 3, False, "ahead", False, False, False)


def reader_with(**changes):
    told = dict(point=".", comma=",", rest=3, must=False, sign="none", zeros=False, blanks=False, exponent=False)
    told.update(changes)
    return Reader(**told)


class OffTest(unittest.TestCase):
    def test_many_pairs_by_trial(self):
        many = all_parts()[::29]
        texts = trials(many, "01", 7)
        rows = {told: written_by_trial(told, texts[told]) for told in many}
        for writer, reader in product(many, repeat=2):
            self.assertEqual(off(Reader(*writer), Reader(*reader)), off_by_trial(rows[writer], texts[reader]),
                             (writer, reader))

    def test_points_and_commas_by_trial(self):
        many = [told for told in all_parts()
                if told[4] == "ahead" and (told[3], told[6], told[7]) == (False, False, False)]
        self.assertEqual(len({told[:2] for told in many}), 13)
        texts = trials(many, "01", 8)
        rows = {told: written_by_trial(told, texts[told]) for told in many}
        for writer, reader in product(many, repeat=2):
            self.assertEqual(off(Reader(*writer), Reader(*reader)), off_by_trial(rows[writer], texts[reader]),
                             (writer, reader))

    def test_all_figures_by_trial(self):
        writer = (".", "", 3, False, "none", False, False, False)
        reader = ("", ".", 3, False, "none", True, False, False)
        texts = taken(writer, "0123", 7)
        self.assertEqual(off(Reader(*writer), Reader(*reader)),
                         off_by_trial(written_by_trial(writer, texts), taken(reader, "0123", 7)))

    def test_point_and_comma_exchanged(self):
        self.assertEqual(off(GERMAN, ENGLISH), [(-3, "1.000"), (3, "1,001")])
        self.assertEqual(off(ENGLISH, GERMAN), [(-3, "1,000"), (3, "1.001")])
        self.assertEqual(off(reader_with(rest=2), reader_with(point=",", comma=".", rest=2)),
                         [(-3, "1,000"), (3, "1.001")])
        self.assertEqual(off(reader_with(rest=2, must=True), reader_with(point=",", comma=".", rest=3)),
                         [(-3, "1,000"), (3, "1.001")])

    def test_noughts_ahead(self):
        turned = dict(point=",", comma=".")
        self.assertEqual(off(reader_with(), reader_with(zeros=True, **turned)), [(-3, "1,000"), (3, "0.001")])
        self.assertEqual(off(reader_with(zeros=True), reader_with(**turned)), [(-3, "1,000"), (3, "1.001")])

    def test_alike_or_not_there(self):
        self.assertEqual(off(ENGLISH, ENGLISH), [])
        self.assertEqual(off(ENGLISH, reader_with(comma="'", zeros=True)), [])
        self.assertEqual(off(reader_with(comma=""), reader_with(comma=" ")), [])
        self.assertEqual(off(reader_with(point="", comma=""), reader_with(point="", comma="")), [])
        self.assertEqual(off(reader_with(point=""), reader_with(point="")), [])
        self.assertEqual(off(reader_with(comma=""), reader_with(point="", comma=".")), [(3, "1.001")])
        self.assertEqual(off(reader_with(point="", comma="."), reader_with(comma="")), [(-3, "1.000")])
        self.assertEqual(off(reader_with(point="", comma="'"), reader_with(point=".", comma="'")), [])

    def test_what_is_told_is_written_and_misread(self):
        for writer, reader in product(all_parts()[::31], repeat=2):
            for power, text in off(Reader(*writer), Reader(*reader)):
                number = means(Reader(*writer), text)
                self.assertEqual(written(Reader(*writer), number), text)
                self.assertEqual(worth_of(means(Reader(*reader), text)), worth_of(number) * Fraction(10) ** power)

    def test_no_reader(self):
        for value in VALUES + [parts(ENGLISH), [ENGLISH]]:
            for writer, reader in ((value, ENGLISH), (ENGLISH, value), (value, value)):
                with self.assertRaises(BadReader):
                    off(writer, reader)

    def test_lists_are_new(self):
        first, second = off(GERMAN, ENGLISH), off(GERMAN, ENGLISH)
        self.assertIsNot(first, second)
        first.clear()
        self.assertEqual(off(GERMAN, ENGLISH), second)
        self.assertEqual([type(second), type(second[0]), type(second[0][0])], [list, tuple, int])


class InterfaceTest(unittest.TestCase):
    def test_where_it_is_defined(self):
        self.assertEqual(off.__module__, "readersapart.offs")

    def test_by_keyword(self):
        self.assertEqual(off(writer=GERMAN, reader=ENGLISH), [(-3, "1.000"), (3, "1,001")])

    def test_example(self):
        self.assertEqual(
            [off(GERMAN, ENGLISH), off(ENGLISH, ENGLISH),
             off(Reader("", ".", 3, False, "none", False, False, False), ENGLISH)],
            [[(-3, "1.000"), (3, "1,001")], [], [(-3, "1.000")]])


if __name__ == "__main__":
    unittest.main()
