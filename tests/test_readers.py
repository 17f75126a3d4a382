import unittest
from itertools import product

from readersapart import readers
from readersapart.errors import BadPart, BadReader, BadReaders
from readersapart.readers import Reader, check_reader, check_readers, parts
from tests.grammar import CHOICES, PART_NAMES, all_parts

GOOD = (".", ",", 3, False, "ahead", False, False, False)

# Values of every kind that may be passed where any value may be.
VALUES = [
    0, 1, 2, 3, 4, -1, -3, 10 ** 40, True, False, None,
    "", ".", ",", "'", " ", "  ", "..", ".,", "3", "2", "x", "none", "ahead", "behind", "Ahead", "behind ",
    "True", "False", (), (3,), (".",), [], [3], ["."], [[]], {}, {".": 3}, {3: None}, (None, [True, {}]),
]


def is_choice(value, choices):
    """Whether the value is one of these, with True and False apart from integers."""
    return any(type(value) is type(choice) and value == choice for choice in choices)


def with_part(told, at, value):
    return told[:at] + (value,) + told[at + 1:]


class PartsTest(unittest.TestCase):
    def assert_bad_part(self, told, name):
        with self.assertRaises(BadPart, msg=told) as caught:
            Reader(*told)
        self.assertEqual(caught.exception.part, name, told)

    def test_all_readers(self):
        self.assertEqual(len(all_parts()), 1104)
        for told in all_parts():
            reader = Reader(*told)
            self.assertEqual(parts(reader), told)
            self.assertEqual([type(part) for part in parts(reader)], [str, str, int, bool, str, bool, bool, bool])
            self.assertEqual(tuple(getattr(reader, name) for name in PART_NAMES), told)

    def test_parts_by_keyword(self):
        self.assertEqual(parts(Reader(**dict(zip(PART_NAMES, GOOD)))), GOOD)

    def test_parts_that_clash(self):
        for told in product(*CHOICES):
            if told[0] == told[1] != "":
                self.assert_bad_part(told, "comma")
            elif told[1] == " " and told[6]:
                self.assert_bad_part(told, "blanks")
            else:
                self.assertEqual(parts(Reader(*told)), told)

    def test_point_and_comma_may_both_be_none(self):
        self.assertEqual(Reader("", "", 3, True, "none", False, True, False).comma, "")

    def test_each_part_alone(self):
        good = (".", "'", 3, False, "ahead", False, False, False)
        for at, name in enumerate(PART_NAMES):
            for value in VALUES:
                told = with_part(good, at, value)
                if is_choice(value, CHOICES[at]) and not (name == "comma" and value == "."):
                    self.assertEqual(parts(Reader(*told)), told)
                else:
                    self.assert_bad_part(told, name)

    def test_true_and_false_are_no_integers(self):
        for value in (True, False):
            self.assert_bad_part(with_part(GOOD, 2, value), "rest")
        for at in (3, 5, 6, 7):
            for value in (0, 1):
                self.assert_bad_part(with_part(GOOD, at, value), PART_NAMES[at])

    def test_several_wrong_at_once(self):
        for wrong in (None, True, 7, "x", [], {}):
            for chosen in product([False, True], repeat=8):
                told = GOOD
                names = []
                for at, name in enumerate(PART_NAMES):
                    if chosen[at] and not is_choice(wrong, CHOICES[at]):
                        told = with_part(told, at, wrong)
                        names.append(name)
                if names:
                    self.assert_bad_part(told, names[0])

    def test_clashes_beside_wrong_parts(self):
        self.assert_bad_part((".", ".", 4, 0, "", 0, 0, 0), "comma")
        self.assert_bad_part(("x", "x", 4, 0, "", 0, 0, 0), "point")
        self.assert_bad_part((",", " ", 3, False, "none", 1, True, 1), "zeros")
        self.assert_bad_part((",", " ", 3, False, "none", True, True, 1), "blanks")
        self.assert_bad_part((" ", " ", 3, False, "none", True, True, True), "point")

    def test_a_blank_as_comma(self):
        self.assertEqual(Reader(".", " ", 3, False, "none", False, False, False).comma, " ")
        self.assert_bad_part((".", " ", 3, False, "none", False, True, False), "blanks")
        self.assert_bad_part((".", "  ", 3, False, "none", False, False, False), "comma")

    def test_arguments_stay_as_they_are(self):
        wrong = [".", {"a": [1]}]
        for at in range(8):
            self.assert_bad_part(with_part(GOOD, at, wrong), PART_NAMES[at])
        self.assertEqual(wrong, [".", {"a": [1]}])


class EqualTest(unittest.TestCase):
    def test_equal_just_if_the_parts_are(self):
        chosen = all_parts()[::37]
        for one, other in product(chosen, repeat=2):
            self.assertEqual(Reader(*one) == Reader(*other), one == other)
            self.assertEqual(Reader(*one) != Reader(*other), one != other)

    def test_each_part_counts(self):
        good = ("", "'", 3, False, "ahead", False, False, False)
        for at, choices in enumerate(CHOICES):
            for choice in choices:
                told = with_part(good, at, choice)
                self.assertEqual(Reader(*good) == Reader(*told), choice == good[at], told)

    def test_equal_to_nothing_of_another_kind(self):
        class Other:
            point = "."

        reader = Reader(*GOOD)
        for value in VALUES + [GOOD, list(GOOD), Other(), object()]:
            self.assertIs(reader == value, False)
            self.assertIs(value == reader, False)
            self.assertIs(reader != value, True)


class CheckTest(unittest.TestCase):
    def test_values_that_are_no_reader(self):
        for value in VALUES + [GOOD, list(GOOD), [Reader(*GOOD)], (Reader(*GOOD),), {"r": Reader(*GOOD)}]:
            for function in (parts, check_reader):
                with self.assertRaises(BadReader):
                    function(value)

    def test_readers(self):
        reader = Reader(*GOOD)
        self.assertIsNone(check_reader(reader))
        for many in range(1, 5):
            self.assertIsNone(check_readers([reader] * many))
            self.assertIsNone(check_readers((reader,) * many))

    def assert_bad_readers(self, value, index):
        with self.assertRaises(BadReaders, msg=value) as caught:
            check_readers(value)
        self.assertEqual(caught.exception.index, index)

    def test_values_that_are_no_readers(self):
        reader = Reader(*GOOD)
        for value in VALUES:
            if not isinstance(value, (list, tuple)) or value in ([], ()):
                self.assert_bad_readers(value, None)
            else:
                self.assert_bad_readers(value, 0)
            for kind in (list, tuple):
                for before in range(4):
                    self.assert_bad_readers(kind([reader] * before + [value]), before)
                    self.assert_bad_readers(kind([reader] * before + [value] * (4 - before)), before)
        for value in ([reader] * 5, (reader,) * 5, [None] * 5, reader, {0: reader}):
            self.assert_bad_readers(value, None)


class InterfaceTest(unittest.TestCase):
    def test_where_it_is_defined(self):
        for thing in (Reader, parts):
            self.assertEqual(thing.__module__, "readersapart.readers")
        self.assertIn("__eq__", vars(Reader))
        for name in PART_NAMES:
            self.assertIsInstance(vars(Reader)[name], property)
        self.assertIs(readers.Reader, Reader)

    def test_example(self):
        english = Reader(".", ",", 3, False, "ahead", False, False, False)
        self.assertEqual(
            [parts(english), english.point,
             english == Reader(".", ",", 3, False, "ahead", False, False, True)],
            [(".", ",", 3, False, "ahead", False, False, False), ".", False])


if __name__ == "__main__":
    unittest.main()
