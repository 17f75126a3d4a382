"""Readers gone through by hand, with any figures in the place of the letters A to G.

A and G stand for figures from 1 to 9, the others for any. A number is told as
a pair (figures, power); figures may have a minus sign ahead.
"""

import unittest

from readersapart.columns import Column
from readersapart.errors import NotTaken
from readersapart.lots import parting, safety, takers, ways
from readersapart.offs import off
from readersapart.pairs import alone, count, count_both, same, two_numbers
from readersapart.readers import Reader
from readersapart.reading import first_stop, means, takes
from readersapart.told import common_parts, fitting
from readersapart.writing import misread, shortest, written

FILLS = ["1234567", "9876543", "1000001", "5050505", "1111111", "7900001", "2013409", "9999999", "3300111", "8080806"]

ENGLISH = Reader(".", ",", 3, False, "ahead", False, False, False)
GERMAN = Reader(",", ".", 3, False, "ahead", False, False, True)
INDIAN = Reader(".", ",", 2, True, "behind", True, True, False)
SWISS = Reader(".", "'", 3, True, "none", False, False, True)
FRENCH = Reader(",", " ", 3, False, "behind", True, False, False)
PLAIN = Reader("", "", 2, True, "ahead", True, True, True)

# For each reader texts with their numbers, and texts that it does not take with how far it goes.
READ = [
    (ENGLISH, {
        "A": ("A", 0), "-A": ("-A", 0), "ABCG": ("ABCG", 0), "A,BCG": ("ABCG", 0), "AB,CDG": ("ABCDG", 0),
        "-ABC,DEF,BCG": ("-ABCDEFBCG", 0), "A.G": ("AG", -1), "ABC.DEG": ("ABCDEG", -3), "A,BCD.EG": ("ABCDEG", -2),
        "-0.0G": ("-G", -2), "0.A00": ("A", -1), "AG000": ("AG", 3), "A,000": ("A", 3), "0": ("0", 0), "0.00": ("0", 0),
    }, {
        "0A": 1, "A-": 1, " A": 0, "A ": 1, "AeB": 1, "A,BC": 4, "A,BCDE": 5, "ABCD,EFG": 4, "A,B": 3, "A.": 2,
        ".A": 0, "A.B.C": 3, "A.BCD,EFG": 5, "A,,BCD": 2, "-": 1, "--A": 1, "": 0, "A,BCD,": 6, "0,ABC": 1,
        "A'BCD": 1, "A,BC.D": 4,
    }),
    (GERMAN, {
        "A,G": ("AG", -1), "A.BCG": ("ABCG", 0), "AB.CDE.FG0,0G": ("ABCDEFG00G", -2), "AG": ("AG", 0),
        "AGe3": ("AG", 3), "AGe-3": ("AG", -3), "A,Ge2": ("AG", 1), "-A,BGe-12": ("-ABG", -14), "A.BCGe99": ("ABCG", 99),
        "0e9": ("0", 0), "A00e1": ("A", 3), "-Ae0": ("-A", 0), "Ae-0": ("A", 0),
    }, {
        "A.G": 3, "Ae": 2, "Ae-": 3, "Ae03": 3, "Ae-03": 4, "Ae123": 4, "Ae1,5": 3, "A,e1": 2, "e1": 0, "A,BCD.EFG": 5,
        "AeB-": 3, "Ae--1": 3, "0A": 1, "A.BCDE": 5,
    }),
    (INDIAN, {
        "A": ("A", 0), "ABG": ("ABG", 0), "A,BCG": ("ABCG", 0), "AB,CDG": ("ABCDG", 0), "A,BC,DEG": ("ABCDEG", 0),
        "AB,CD,EF,BCG": ("ABCDEFBCG", 0), "ABG-": ("-ABG", 0), "0A,BCG-": ("-ABCG", 0), "00G": ("G", 0),
        "  A,BCG.D5-   ": ("-ABCGD5", -2), " A": ("A", 0), "A  ": ("A", 0), "0.0G-": ("-G", -2), "0,00A": ("A", 0),
    }, {
        "ABCD": 3, "ABC,DEF": 3, "A,BCD,EFG": 5, "-A": 0, "A -": 2, "A- -": 3, "A--": 2, "A,BC,DE": 7, "Ae1": 1,
        "A,BC": 4, "": 0, "   ": 3, "A B": 2, "A,B C": 3, "A,BC.D": 4, "000A": 3, "A,BCDE": 5,
    }),
    (SWISS, {
        "ABG": ("ABG", 0), "A'BCG": ("ABCG", 0), "ABC'DEF'BCG.0G": ("ABCDEFBCG0G", -2), "A'BCGe2": ("ABCG", 2),
        "A.BCDEFG": ("ABCDEFG", -6), "0.Ge-1": ("G", -2),
    }, {
        "ABCD": 3, "ABCD.E": 3, "-A": 0, "A-": 1, "A,BCD": 1, "A'BC": 4, "0'ABC": 1, "A.BCD'EFG": 5, "ABC'DEFe": 8,
    }),
    (FRENCH, {
        "A BCG": ("ABCG", 0), "ABCG": ("ABCG", 0), "A BCD,EG": ("ABCDEG", -2), "AB CDE FBG-": ("-ABCDEFBG", 0),
        "00 A0G": ("A0G", 0), "000A": ("A", 0), "0,G-": ("-G", -1),
    }, {
        " A": 0, "A ": 2, "A  BCD": 2, "A BC": 4, "A BCDE": 5, "ABCD EFG": 4, "A,B CDE": 3, "A-BC": 2, "A.B": 1,
        "A BCD-E": 6,
    }),
    (PLAIN, {
        "ABCDEFG": ("ABCDEFG", 0), "00ABG": ("ABG", 0), "  -AG ": ("-AG", 0), "AGe07": ("AG", 7), "-0Ge-0A": ("-G", "-A"),
        " 00 ": ("0", 0),
    }, {
        "A.B": 1, "A,BCD": 1, "A BCD": 2, "- A": 1, "A-": 1, "Ae1 2": 4, "Ae001": 4, "A e1": 2,
    }),
]

# For each reader how it writes numbers; None for those that it does not write.
WRITTEN = [
    (ENGLISH, {("G", 0): "G", ("-ABG", 0): "-ABG", ("ABCG", 0): "A,BCG", ("AG", 5): "A,G00,000", ("-AG", -1): "-A.G",
               ("ABCDEG", -2): "A,BCD.EG", ("G", -4): "0.000G", ("ABCDEFG", 0): "A,BCD,EFG"}),
    (GERMAN, {("ABCG", 0): "A.BCG", ("AG", -2): "0,AG", ("G", 6): "G.000.000", ("-ABCDEG", -1): "-AB.CDE,G"}),
    (INDIAN, {("ABCG", 0): "A,BCG", ("ABCDEG", 0): "A,BC,DEG", ("-ABCDEFG", 0): "AB,CD,EFG-", ("-G", -1): "0.G-",
              ("G", 5): "G,00,000", ("-AG", 6): "A,G0,00,000-"}),
    (SWISS, {("ABCDEFG", -1): "ABC'DEF.G", ("-G", 0): None, ("-G", -1): None, ("AG", 2): "A'G00"}),
    (FRENCH, {("ABCDEG", 0): "ABC DEG", ("-ABCG", -3): "A,BCG-", ("AG", 3): "AG 000"}),
    (PLAIN, {("ABCDEFG", 0): "ABCDEFG", ("-AG", 4): "-AG0000", ("G", -1): None, ("-AG", -2): None}),
]


def fill(text, figures):
    """A text with figures in the place of the letters A to G."""
    for letter, figure in zip("ABCDEFG", figures):
        text = text.replace(letter, figure)
    return text


def plain(number, figures):
    """The pair (n, k) for a number that is told with letters, n being no multiple of 10."""
    n, k = int(fill(number[0], figures)), int(fill(str(number[1]), figures))
    while n != 0 and n % 10 == 0:
        n, k = n // 10, k + 1
    return (n, k) if n else (0, 0)


class ReadTest(unittest.TestCase):
    def test_texts_that_are_taken(self):
        for figures in FILLS:
            for reader, taken, _ in READ:
                for text, number in taken.items():
                    text = fill(text, figures)
                    self.assertEqual((takes(reader, text), first_stop(reader, text)), (True, None), text)
                    self.assertEqual(means(reader, text), plain(number, figures), text)

    def test_texts_that_are_not_taken(self):
        for figures in FILLS:
            for reader, _, stops in READ:
                for text, at in stops.items():
                    text = fill(text, figures)
                    self.assertEqual((takes(reader, text), first_stop(reader, text)), (False, at), text)

    def test_stops_of_means(self):
        for figures in FILLS[:3]:
            for reader, _, stops in READ:
                for text, at in stops.items():
                    with self.assertRaises(NotTaken) as caught:
                        means(reader, fill(text, figures))
                    self.assertEqual(caught.exception.at, at, text)


class WriteTest(unittest.TestCase):
    def test_written(self):
        for figures in FILLS:
            for reader, told in WRITTEN:
                for number, text in told.items():
                    number = plain(number, figures)
                    text = None if text is None else fill(text, figures)
                    self.assertEqual(written(reader, number), text, number)
                    if text is not None:
                        self.assertEqual(means(reader, text), number, text)

    def test_misread(self):
        for figures in FILLS:
            for writer, reader, number, found in (
                (ENGLISH, GERMAN, ("ABCG", 0), ("ABCG", -3)), (GERMAN, ENGLISH, ("-ABCDEG", 0), ("-ABCDEG", -3)),
                (ENGLISH, GERMAN, ("ABCG", -3), ("ABCG", 0)), (GERMAN, ENGLISH, ("-AG", 2), ("-AG", -1)),
                (ENGLISH, INDIAN, ("ABCG", -1), ("ABCG", -1)), (SWISS, ENGLISH, ("ABCG", -3), ("ABCG", -3)),
                (PLAIN, ENGLISH, ("-ABCDEFG", 0), ("-ABCDEFG", 0)), (FRENCH, ENGLISH, ("ABCG", -3), ("ABCG", 0)),
                (FRENCH, GERMAN, ("ABG", -1), ("ABG", -1)), (INDIAN, GERMAN, ("ABCDG", 0), ("ABCDG", -3)),
            ):
                told = (number, figures)
                self.assertEqual(misread(writer, reader, plain(number, figures)), plain(found, figures), told)
            for writer, reader, number, at in (
                (ENGLISH, GERMAN, ("AG", -1), 3), (GERMAN, ENGLISH, ("ABCG", -2), 5), (ENGLISH, GERMAN, ("G", -3), 1),
                (ENGLISH, INDIAN, ("-A", 0), 0), (ENGLISH, PLAIN, ("ABCG", 0), 1), (SWISS, FRENCH, ("ABCG", 0), 1),
                (ENGLISH, GERMAN, ("ABCDEFG", 0), 5), (ENGLISH, GERMAN, ("ABCDEG", -2), 5),
            ):
                with self.assertRaises(NotTaken) as caught:
                    misread(writer, reader, plain(number, figures))
                self.assertEqual(caught.exception.at, at, (number, figures))
            self.assertIsNone(misread(SWISS, ENGLISH, plain(("-ABG", 0), figures)))
            self.assertIsNone(misread(PLAIN, ENGLISH, plain(("ABG", -2), figures)))

    def test_shortest(self):
        for figures in FILLS:
            for readers, number, text in (
                ([ENGLISH], ("ABCG", 0), "ABCG"), ([ENGLISH], ("-AG", -1), "-A.G"), ([INDIAN], ("ABCG", 0), "A,BCG"),
                ([INDIAN], ("-ABCDEFG", 0), "AB,CD,EFG-"), ([ENGLISH, GERMAN], ("ABCG", 0), "ABCG"),
                ([ENGLISH, GERMAN], ("ABCG", -1), None), ([GERMAN, PLAIN], ("AG", -1), "AGe-1"),
                ([GERMAN, PLAIN], ("-AG", 9), "-AGe9"), ([GERMAN], ("G", 12), "Ge12"), ([ENGLISH], ("G", 5), "G00000"),
                ([SWISS], ("G", 3), "Ge3"), ([SWISS, PLAIN], ("G", 3), "Ge3"), ([SWISS, INDIAN], ("AG", 2), None),
                ([FRENCH], ("-ABCDG", -2), "ABC,DG-"), ([ENGLISH, FRENCH], ("-A", 0), None),
                ([SWISS, PLAIN, GERMAN], ("ABG", -4), "ABGe-4"), ([SWISS], ("ABG", -4), "0.0ABG"),
                ([ENGLISH, GERMAN, INDIAN, SWISS], ("ABG", 0), "ABG"), ([GERMAN], ("G", -3), "Ge-3"),
            ):
                text = None if text is None else fill(text, figures)
                self.assertEqual(shortest(readers, plain(number, figures)), text, (number, figures))


class PairsTest(unittest.TestCase):
    def test_first_texts(self):
        for one, other, told in (
            # Alone for one, alone for the other, two numbers, by length and then by signs: " ',-.0123456789e".
            (ENGLISH, GERMAN, ("0.0", "0,0", "1,000")),
            (ENGLISH, INDIAN, ("-0", " 0", None)),
            (ENGLISH, SWISS, ("-0", "0e0", None)),
            (GERMAN, PLAIN, ("0,0", " 0", None)),
            (INDIAN, FRENCH, (" 0", "0,0", "0,001")),
            (SWISS, FRENCH, ("0.0", "0-", None)),
            (ENGLISH, FRENCH, ("-0", "0-", "1,000")),
            (PLAIN, SWISS, (" 0", "0.0", None)),
        ):
            self.assertEqual((alone(one, other), alone(other, one), two_numbers(one, other)), told)
            self.assertEqual((two_numbers(other, one), same(one, other)), (told[2], False))
            least = min([text for text in told if text], key=lambda text: (len(text), text))
            self.assertEqual(parting([one, other]), least)

    def test_counts(self):
        # English, of three: figures, a minus and two, a point between; of four: figures, a minus and three or
        # figures with a point in one of two places, a minus ahead of one with a point.
        self.assertEqual([count(ENGLISH, length) for length in (1, 2, 3, 4)],
                         [10, 90 + 10, 900 + 90 + 100, 9000 + 900 + 900 + 1000 + 100])
        # Indian, of two: figures with noughts ahead, a minus behind, a blank on one of two sides.
        self.assertEqual([count(INDIAN, length) for length in (1, 2)], [10, 100 + 10 + 2 * 10])
        # Plain, of three: figures, minus, blanks (two ahead, two behind, one each), both, and an exponent.
        self.assertEqual([count(PLAIN, length) for length in (1, 2, 3)],
                         [10, 100 + 10 + 20, 1000 + 100 + 2 * 100 + 3 * 10 + 2 * 10 + 100])
        # Swiss, of five: none of figures alone, one comma, a point behind one to three, exponents of one to three.
        self.assertEqual([count(SWISS, length) for length in (1, 2, 3, 5)],
                         [10, 90, 900 + 100 + 100,
                          9 * 1000 + (900 + 90 * 10 + 10 * 100) * 10 + 900 * 10 + 90 * (90 + 10) + 10 * 90 + 100 * 10])
        # Both take: figures, and a comma behind one, which is a point for the other one.
        self.assertEqual([count_both(ENGLISH, FRENCH, length) for length in (1, 3, 5)],
                         [(10, 0), (900, 0), (90000 + 9000, 9000)])

    def test_offs(self):
        self.assertEqual(
            [off(ENGLISH, GERMAN), off(ENGLISH, FRENCH), off(FRENCH, ENGLISH), off(INDIAN, FRENCH), off(FRENCH, INDIAN),
             off(SWISS, GERMAN), off(GERMAN, SWISS), off(PLAIN, ENGLISH), off(ENGLISH, INDIAN)],
            [[(-3, "1,000"), (3, "1.001")], [(-3, "1,000")], [(3, "1,001")], [(-3, "1,000")], [(3, "0,001")],
             [(3, "1.001")], [(-3, "1.000")], [], []])


class LotsTest(unittest.TestCase):
    def test_safety(self):
        lot = [ENGLISH, GERMAN, INDIAN]
        for figures in FILLS:
            for text, word in (("ABG", "safe"), ("ABCG", "partly"), ("A,BCG", "apart"), ("A.BCG", "apart"), ("A.G", "partly"),
                               ("A'BCG", "refused"), ("-A", "partly"), ("0G", "partly"), ("A,BC,DEG", "partly"),
                               ("0,00G", "apart"), ("-A-", "refused"), ("A ", "partly"), ("A,B.C", "refused")):
                self.assertEqual(safety(lot, fill(text, figures)), word, text)
            self.assertEqual(takers(lot, [fill(text, figures) for text in ("A,BCG", "ABG")]), [0, 1, 2])
            self.assertEqual(takers(lot, [fill(text, figures) for text in ("A,BCG", "A.G")]), [0, 2])
            self.assertEqual(
                ways(lot, [fill(text, figures) for text in ("A,BCG", "ABG")]),
                [((plain(("ABCG", 0), figures), plain(("ABG", 0), figures)), (0, 2)),
                 ((plain(("ABCG", -3), figures), plain(("ABG", 0), figures)), (1,))])

    def test_a_column(self):
        for figures in FILLS:
            column = Column((ENGLISH, GERMAN, INDIAN))
            steps = []
            for text in ("A,BCG", "ABG", "A,BC,DEG"):
                steps.append((column.add(fill(text, figures)), column.left(), len(column)))
            self.assertEqual(steps, [("apart", [0, 1, 2], 1), ("safe", [0, 1, 2], 2), ("partly", [2], 3)])
            self.assertEqual(column.numbers(1), [plain(("ABCG", -3), figures), plain(("ABG", 0), figures), None])
            self.assertEqual([column.undo(), column.left(), column.texts],
                             [True, [0, 1, 2], (fill("A,BCG", figures), fill("ABG", figures))])

    def test_readers_that_agree(self):
        for figures in FILLS:
            texts = [fill(text, figures) for text in ("A.BCD,EG", "-ABCG", "G0e0A", "0G", "G ")]
            numbers = [plain(number, figures) for number in (("ABCDEG", -2), ("-ABCG", 0))]
            numbers += [plain(("G0", figures[0]), figures), None, None]
            # "e0A" has a nought ahead of its power, so that no reader without noughts takes it.
            self.assertEqual(fitting(texts, numbers), [])
            texts[2] = fill("G0eA", figures)
            self.assertEqual(fitting(texts, numbers), [
                (",", ".", rest, False, "ahead", False, False, True) for rest in (3, 2)])
            self.assertEqual(common_parts(texts, numbers), (",", ".", None, False, "ahead", False, False, True))
            self.assertEqual(common_parts(texts[:3], numbers[:3]), (",", ".", None, False, "ahead", None, None, True))


if __name__ == "__main__":
    unittest.main()
