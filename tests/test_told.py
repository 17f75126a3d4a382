import unittest
from itertools import product

from readersapart.errors import BadNumbers, BadTexts
from readersapart.readers import Reader, parts
from readersapart.reading import means, takes
from readersapart.told import common_parts, fitting
from tests.grammar import all_parts, worth_of
from tests.trial import VALUES, trials

ALL = all_parts()
TEXTS = ["0", "1", "-1", "1-", "01", " 1", "1 ", "1.0", "0.1", "0,1", "1e1", "1e-1", "1e01", "1000", "1,000",
         "1.000", "1'000", "1 000", "1.001", "0,000", "x", "", "1.", "0-", "00"]
LONG = {
    "10,000": [(1, 4), (1, 1), None], "1,00,000": [(1, 5), None], "100.000": [(1, 5), (1, 2), None],
    "1,000.5": [(10005, -1), None], "1,000,000": [(1, 6), None], "1000000": [(1, 6), None],
    "-1.000,5e-07 ": [(-10005, -8), None], "12 34 567-": [(-1234567, 0), None],
}


def fitting_by_trial(texts, numbers, read):
    """fitting, told from dicts of the worths of short texts, by the parts of the readers."""
    wanted = [None if number is None else worth_of(number) for number in numbers]
    return [told for told in ALL if [read[told].get(text) for text in texts] == wanted]


def common_by_trial(found):
    if not found:
        return None
    return tuple(values[0] if len(set(values)) == 1 else None for values in zip(*found))


class FittingTest(unittest.TestCase):
    @classmethod
    def setUpClass(cls):
        cls.read = trials(ALL, "01", 5)

    def assert_as_trial(self, texts, numbers):
        tried = fitting_by_trial(texts, numbers, self.read)
        self.assertEqual(fitting(texts, numbers), tried, (texts, numbers))
        self.assertEqual(common_parts(texts, numbers), common_by_trial(tried), (texts, numbers))
        return tried

    def test_single_texts(self):
        for text in TEXTS:
            for number in [None, (1, 0), (-1, 0), (0, 0), (1, 1), (1, -1), (1, 3), (1001, 0), (1001, -3), (5, 0)]:
                self.assert_as_trial([text], [number])

    def test_several_texts(self):
        rows = {text: [None, (1, 0), (0, 0)] for text in TEXTS}
        rows.update({"1e1": [None, (1, 1)], "1,000": [None, (1, 0), (1, 3)], "1.000": [None, (1, 0), (1, 3)],
                     "-1": [None, (-1, 0)], "1-": [None, (-1, 0)], "0.1": [None, (1, -1)]})
        some = 0
        for first, second, third in zip(TEXTS[::3], TEXTS[1::3], TEXTS[11:] + TEXTS[:11]):
            for numbers in product(rows[first], rows[second], rows[third]):
                some += bool(self.assert_as_trial((first, second, third), numbers))
        self.assertGreater(some, 20)

    def test_each_reader_by_all_texts(self):
        for told in ALL[::31]:
            reader = Reader(*told)
            numbers = [means(reader, text) if takes(reader, text) else None for text in TEXTS[:20]]
            self.assertIn(told, self.assert_as_trial(TEXTS[:20], numbers))

    def test_all_are_among_those_that_agree_with_what_they_read(self):
        texts = list(LONG)
        for told in ALL[::13]:
            reader = Reader(*told)
            numbers = [means(reader, text) if takes(reader, text) else None for text in texts]
            found = fitting(texts, numbers)
            self.assertIn(told, found)
            for other in found[::9]:
                self.assertEqual(
                    [means(Reader(*other), text) if takes(Reader(*other), text) else None for text in texts], numbers)

    def test_longer_texts(self):
        for text, choices in LONG.items():
            found = [fitting([text], [number]) for number in choices]
            self.assertEqual(sorted(sum(found, [])), sorted(ALL), text)
            self.assertTrue(all(found), text)
            for number, many in zip(choices, found):
                for told in many:
                    reader = Reader(*told)
                    self.assertEqual(means(reader, text) if takes(reader, text) else None, number, (text, told))

    def test_the_order(self):
        self.assertEqual(fitting(["7"], [(7, 0)]), ALL)
        self.assertEqual(fitting(["x"], [None]), ALL)
        self.assertEqual(len(ALL), 1104)
        self.assertEqual(fitting(["7"], [(7, 0)])[:3], [
            (".", ",", 3, False, "none", False, False, False), (".", ",", 3, False, "none", False, False, True),
            (".", ",", 3, False, "none", False, True, False),
        ])
        self.assertEqual(fitting(["7"], [(7, 0)])[-1], ("", "", 2, True, "behind", True, True, True))

    def test_without_any(self):
        for texts, numbers in ((["1"], [(2, 0)]), (["x"], [(1, 0)]), (["1"], [None]), (["1", "1"], [(1, 0), None]),
                               (["1.5", "1,5"], [(15, -1), (15, -1)]), (["-1", "1-"], [(-1, 0), (-1, 0)])):
            self.assertEqual(fitting(texts, numbers), [])
            self.assertIsNone(common_parts(texts, numbers))

    def test_a_text_twice(self):
        self.assertEqual(fitting(["1.5", "1.5"], [(15, -1)] * 2), fitting(["1.5"], [(15, -1)]))

    def test_most_texts(self):
        texts = ["1" * 100] * 19 + ["1,234.5"]
        numbers = [None] * 19 + [(12345, -1)]
        found = fitting(texts, numbers)
        # All that have to put a comma between so many figures.
        self.assertEqual({told[:4] for told in found}, {(".", ",", 3, True), (".", ",", 2, True)})
        self.assertEqual(len(found), 2 * 3 * 2 * 2 * 2)

    def test_numbers_beyond_the_limits_are_no_ones(self):
        self.assertEqual(fitting(["1e31", "7" * 31], [None, None]),
                         [told for told in ALL if not told[7] and told[1] and told[3]])


class CommonTest(unittest.TestCase):
    def test_a_single_reader(self):
        told = (",", "'", 2, True, "behind", True, True, True)
        texts = ["1'23'456,5", "1234", " 05- ", "1e07"]
        numbers = [(1234565, -1), None, (-5, 0), (1, 7)]
        self.assertEqual(fitting(texts, numbers), [told])
        self.assertEqual(common_parts(texts, numbers), told)

    def test_false_is_no_none(self):
        told = ("", "", 3, False, "none", False, False, False)
        found = common_parts(["7", "00", "7e1", " 7", "1000", "-7", "7-"], [(7, 0), None, None, None, (1, 3), None, None])
        self.assertEqual([found[at] for at in (4, 5, 6, 7)], [told[at] for at in (4, 5, 6, 7)])
        self.assertEqual([found[at] for at in (0, 1, 2, 3)], [None] * 4)
        self.assertIs(found[5], False)

    def test_it_is_a_tuple_of_eight(self):
        self.assertEqual(common_parts(["7"], [(7, 0)]), (None,) * 8)
        self.assertEqual(common_parts(["1.5"], ((15, -1),)), (".",) + (None,) * 7)


class WrongValuesTest(unittest.TestCase):
    def assert_bad(self, error, index, texts, numbers):
        for function in (fitting, common_parts):
            with self.assertRaises(error, msg=(texts, numbers)) as caught:
                function(texts, numbers)
            self.assertEqual(caught.exception.index, index, (texts, numbers))

    def test_no_texts(self):
        long = "1" * 101
        for numbers in ([None], [(1, 0)], [], None, [5, 5]):
            for texts in (None, "1", 5, True, {}, {"1": "1"}, [], (), ["1"] * 21, ("1",) * 21):
                self.assert_bad(BadTexts, None, texts, numbers)
            for texts, index in (([5], 0), (["1", None], 1), (("1", "2", long), 2), ([["1"]], 0), ([True, 5], 0)):
                self.assert_bad(BadTexts, index, texts, numbers)

    def test_not_as_many_numbers(self):
        for numbers in (None, 5, "1", "11", True, {}, {0: None, 1: None}, [], (), [None], [(1, 0)] * 3, [5], [5] * 3,
                        ((1, 0),)):
            self.assert_bad(BadNumbers, None, ["1", "2"], numbers)

    def test_two_things_that_are_no_numbers(self):
        self.assert_bad(BadNumbers, 0, ["1", "2"], (1, 0))
        self.assert_bad(BadNumbers, 0, ["1", "2"], [1, 0])

    def test_no_number(self):
        wrong = [value for value in VALUES if value is not None and value != (1, 0)]
        wrong += [(10, 0), (0, 1), (10 ** 30, 0), (10 ** 30 + 1, 0), (1, 31), (1, -31), (-1, 99), [1, 0], (True, 0),
                  (1, False), (1,), (1, 0, 0), ("1", 0), (1, None), (-20, 3), ()]
        for value in wrong:
            self.assert_bad(BadNumbers, 0, ["1"], [value])
            self.assert_bad(BadNumbers, 1, ["1", "x", "2"], (None, value, 5))
        for number in ((10 ** 30 - 1, 30), (1 - 10 ** 30, -30), (0, 0), (7, 0), None):
            self.assertIsInstance(fitting(["x"], [number]), list)

    def test_nothing_is_changed(self):
        texts, numbers = ["1.5", "x"], [(15, -1), None]
        first = fitting(texts, numbers)
        first.pop()
        self.assertEqual(len(fitting(texts, numbers)), len(first) + 1)
        self.assertEqual((texts, numbers), (["1.5", "x"], [(15, -1), None]))
        self.assertEqual(fitting(tuple(texts), tuple(numbers)), fitting(texts, numbers))
        self.assertEqual(common_parts(texts, numbers), common_parts(texts, numbers))


class InterfaceTest(unittest.TestCase):
    def test_where_it_is_defined(self):
        for function in (fitting, common_parts):
            self.assertEqual(function.__module__, "readersapart.told")

    def test_by_keyword(self):
        self.assertEqual(common_parts(texts=["1"], numbers=[(2, 0)]), None)
        self.assertEqual(fitting(texts=["1"], numbers=[(2, 0)]), [])

    def test_what_is_told_makes_readers(self):
        for told in fitting(["1.5"], [(15, -1)])[::37]:
            self.assertEqual(parts(Reader(*told)), told)

    def test_first_example(self):
        self.assertEqual(
            [len(fitting(["1.234", "1,5"], [(1234, 0), (15, -1)])),
             common_parts(["1.234", "1,5"], [(1234, 0), (15, -1)]), common_parts(["1"], [(2, 0)])],
            [96, (",", ".", None, None, None, None, None, None), None])

    def test_second_example(self):
        self.assertEqual(
            [fitting(["1,23,456", "1234", "00", " 0", "1e1", "-0"], [(123456, 0), None, None, None, None, (0, 0)]),
             len(fitting(["7"], [(7, 0)]))],
            [[(".", ",", 2, True, "ahead", False, False, False), ("", ",", 2, True, "ahead", False, False, False)],
             1104])


if __name__ == "__main__":
    unittest.main()
