import unittest
from itertools import product

from readersapart.errors import BadLength, BadReader
from readersapart.pairs import alone, count, count_both, same, two_numbers
from readersapart.readers import Reader, parts
from readersapart.reading import takes
from tests.grammar import all_parts, all_texts, taken
from tests.trial import (
    VALUES, alone_by_trial, both_by_trial, count_by_trial, counts_by_pieces, in_order, trials, two_by_trial,
)

ENGLISH = Reader(".", ",", 3, False, "ahead", False, False, False)
GERMAN = Reader(",", ".", 3, False, "ahead", False, False, False)

# Readers that have each part in each way, and some that differ in one part only.
CHOSEN = [
    (".", ",", 3, False, "ahead", False, False, False),
    (",", ".", 3, False, "ahead", False, False, False),
    (",", ".", 2, True, "behind", True, True, True),
    (".", ",", 2, True, "behind", True, True, True),
    ("", "'", 2, False, "none", True, False, True),
    (".", " ", 3, True, "behind", False, False, True),
    (",", "", 3, True, "ahead", True, True, False),
    ("", ",", 2, True, "ahead", True, False, True),
    ("", "", 3, False, "none", False, False, False),
    ("", ".", 3, False, "none", False, True, False),
    (",", ".", 3, False, "none", True, True, False),
]


def reader_with(**changes):
    told = dict(point=".", comma=",", rest=3, must=False, sign="none", zeros=False, blanks=False, exponent=False)
    told.update(changes)
    return Reader(**told)


def heart(told):
    """The parts without those that mean nothing for a reader without a comma."""
    return told if told[1] else told[:2] + (3, False) + told[4:]


class Compared(unittest.TestCase):
    def assert_first(self, answer, tried, longest, told):
        """Compare a first text with the one of a trial up to some length."""
        if answer is not None and len(answer) <= longest:
            self.assertEqual(answer, tried, told)
        else:
            self.assertIsNone(tried, told)

    def assert_first_texts(self, one, other, texts, longest):
        """Compare what is told of two readers with their trials."""
        told = (one, other)
        first, second = Reader(*one), Reader(*other)
        lone, back, two = alone(first, second), alone(second, first), two_numbers(first, second)
        self.assert_first(lone, alone_by_trial(texts[one], texts[other]), longest, told)
        self.assert_first(back, alone_by_trial(texts[other], texts[one]), longest, told)
        self.assert_first(two, two_by_trial(texts[one], texts[other]), longest, told)
        self.assertEqual(two_numbers(second, first), two, told)
        self.assertIs(same(first, second), (lone, back, two) == (None, None, None), told)


class FirstTextsTest(Compared):
    def test_all_readers_with_chosen_ones(self):
        texts = trials(all_parts(), "01", 4)
        for one, other in product(CHOSEN, all_parts()):
            self.assert_first_texts(one, other, texts, 4)

    def test_all_figures(self):
        texts = trials(CHOSEN[:7], "0123456789", 4)
        for one, other in product(CHOSEN[:7], repeat=2):
            self.assert_first_texts(one, other, texts, 4)

    def test_all_texts_in_order(self):
        tried = in_order(all_texts("019.,' -ex", 4))
        for one, other in [(ENGLISH, GERMAN), (GERMAN, ENGLISH), (reader_with(exponent=True), ENGLISH)]:
            found = [text for text in tried if takes(one, text) and not takes(other, text)]
            self.assertEqual(alone(one, other), found[0])

    def test_longer_texts(self):
        texts = trials(CHOSEN, "01", 8)
        for one, other in product(CHOSEN, repeat=2):
            self.assert_first_texts(one, other, texts, 8)

    def test_readers_that_differ_in_one_part(self):
        for told in CHOSEN:
            near = [other for other in all_parts() if sum(a != b for a, b in zip(told, other)) == 1]
            texts = trials(near + [told], "01", 8)
            for other in near:
                self.assert_first_texts(told, other, texts, 8)

    def test_texts_that_part_late(self):
        two, three = reader_with(rest=2), reader_with(rest=3)
        self.assertEqual([alone(three, two), alone(two, three)], ["100,000", "1,00,000"])
        self.assertEqual(two_numbers(two, three), None)
        must = reader_with(must=True)
        self.assertEqual([alone(three, must), alone(must, three)], ["1000", None])
        self.assertEqual([alone(reader_with(zeros=True), three), alone(three, reader_with(zeros=True))], ["00", None])
        self.assertEqual([alone(reader_with(blanks=True), three), alone(reader_with(exponent=True), three)],
                         [" 0", "0e0"])
        self.assertEqual([alone(reader_with(sign="ahead"), three), alone(reader_with(sign="behind"), three)],
                         ["-0", "0-"])

    def test_two_numbers(self):
        self.assertEqual(two_numbers(ENGLISH, GERMAN), "1,000")
        self.assertEqual(two_numbers(reader_with(point="", comma="."), reader_with(comma="'")), "1.000")
        # 0,000 is nought for both, and 0,001 is not.
        both = [reader_with(zeros=True), reader_with(point=",", comma=".", zeros=True)]
        self.assertEqual(two_numbers(*both), "0,001")
        self.assertEqual(two_numbers(reader_with(zeros=True), reader_with(point=",", comma="")), "0,001")
        self.assertEqual(two_numbers(reader_with(), reader_with(point=",", comma="", zeros=True)), "1,000")
        self.assertEqual(two_numbers(reader_with(comma="'"), reader_with(point=",", comma=" ")), None)
        self.assertEqual(two_numbers(ENGLISH, ENGLISH), None)


class SameTest(Compared):
    def test_without_a_comma_rest_and_must_mean_nothing(self):
        for point in (".", ",", ""):
            many = [reader_with(point=point, comma="", rest=rest, must=must)
                    for rest, must in product((3, 2), (False, True))]
            for one, other in product(many, repeat=2):
                self.assertIs(same(one, other), True)
                self.assertEqual([alone(one, other), two_numbers(one, other)], [None, None])

    def test_all_readers_with_chosen_ones(self):
        for one, other in product(CHOSEN, all_parts()):
            self.assertIs(same(Reader(*one), Reader(*other)), heart(one) == heart(other), (one, other))

    def test_each_reader_is_the_same_as_itself(self):
        for told in all_parts():
            self.assertIs(same(Reader(*told), Reader(*told)), True)
            self.assertEqual(alone(Reader(*told), Reader(*told)), None)


class CountTest(unittest.TestCase):
    def test_all_readers_on_short_texts(self):
        texts = trials(all_parts(), "01", 4)
        for told in all_parts():
            reader = Reader(*told)
            self.assertEqual([count(reader, length) for length in range(5)],
                             [count_by_trial(texts[told], length) for length in range(5)], told)

    def test_all_readers_at_all_lengths(self):
        for told in all_parts():
            expected = counts_by_pieces(told, 30)
            lengths = range(31) if told in CHOSEN else (0, 1, 7, 8, 29, 30)
            for length in lengths:
                self.assertEqual(count(Reader(*told), length), expected[length], (told, length))

    def test_all_figures(self):
        for told in CHOSEN[:4]:
            texts = taken(told, "0123456789", 4)
            for length in range(5):
                self.assertEqual(count(Reader(*told), length), sum(len(text) == length for text in texts), told)

    def test_the_longest(self):
        figures = Reader("", "", 3, False, "none", True, False, False)
        self.assertEqual([count(figures, length) for length in (0, 1, 2, 30)], [0, 10, 100, 10 ** 30])
        plain = Reader("", "", 3, False, "none", False, False, False)
        self.assertEqual([count(plain, length) for length in (0, 1, 2, 30)], [0, 10, 90, 9 * 10 ** 29])
        self.assertIs(type(count(plain, 0)), int)


class CountBothTest(unittest.TestCase):
    def test_many_pairs_on_short_texts(self):
        texts = trials(all_parts(), "01", 4)
        for one, other in product(CHOSEN, all_parts()[::3]):
            for length in range(5):
                self.assertEqual(count_both(Reader(*one), Reader(*other), length),
                                 both_by_trial(texts[one], texts[other], length), (one, other, length))

    def test_longer_texts(self):
        texts = trials(CHOSEN, "01", 8)
        for one, other in product(CHOSEN, repeat=2):
            for length in range(5, 9):
                self.assertEqual(count_both(Reader(*one), Reader(*other), length),
                                 both_by_trial(texts[one], texts[other], length), (one, other, length))

    def test_a_reader_with_itself(self):
        for told in all_parts():
            for length in (0, 1, 30):
                self.assertEqual(count_both(Reader(*told), Reader(*told), length),
                                 (count(Reader(*told), length), 0))

    def test_a_reader_with_one_that_takes_more(self):
        for at, told in product((5, 6, 7), CHOSEN):
            less, more = told[:at] + (False,) + told[at + 1:], told[:at] + (True,) + told[at + 1:]
            if more[1] != " " or not more[6]:
                self.assertEqual(count_both(Reader(*more), Reader(*less), 30), (count(Reader(*less), 30), 0))

    def test_the_longest(self):
        # A text with a comma that is a point for the other one has at most 8 signs here.
        self.assertEqual(count_both(ENGLISH, GERMAN, 30), (9 * 10 ** 29 + 9 * 10 ** 28, 0))
        self.assertEqual(count_both(ENGLISH, GERMAN, 8), (9 * 10 ** 7 + 9 * 10 ** 6 + 2 * 900 * 1000, 2 * 900 * 1000))
        self.assertEqual([count_both(ENGLISH, GERMAN, length) for length in (0, 1)], [(0, 0), (10, 0)])
        # With blanks around there are such texts of any length.
        blank = reader_with(blanks=True)
        other = reader_with(point=",", comma=".", blanks=True)
        plain = sum((30 - size + 1) * (10 if size == 1 else 9 * 10 ** (size - 1)) for size in range(1, 31))
        two = sum((30 - size + 1) * 2 * 9 * 10 ** (size - 5) * 1000 for size in (5, 6, 7))
        self.assertEqual(count_both(blank, other, 30), (plain + two, two))

    def test_it_is_a_pair(self):
        found = count_both(ENGLISH, GERMAN, 5)
        self.assertEqual([type(found), type(found[0]), type(found[1])], [tuple, int, int])


class WrongValuesTest(unittest.TestCase):
    def test_no_reader(self):
        for value in VALUES + [parts(ENGLISH), [ENGLISH]]:
            for function in (alone, two_numbers, same):
                for one, other in ((value, ENGLISH), (ENGLISH, value), (value, value)):
                    with self.assertRaises(BadReader):
                        function(one, other)

    def test_no_reader_ahead_of_no_length(self):
        for value in VALUES:
            for length in VALUES + [30]:
                with self.assertRaises(BadReader):
                    count(value, length)
                for one, other in ((value, ENGLISH), (ENGLISH, value)):
                    with self.assertRaises(BadReader):
                        count_both(one, other, length)

    def test_no_length(self):
        wrong = [-1, 31, 32, 10 ** 40, -10 ** 40, True, False, None, "", "5", (), (5,), [], [5], {}, {5: 5}, ENGLISH]
        for length in wrong:
            with self.assertRaises(BadLength):
                count(ENGLISH, length)
            with self.assertRaises(BadLength):
                count_both(ENGLISH, GERMAN, length)

    def test_nothing_is_changed(self):
        calls = [(alone, ()), (two_numbers, ()), (same, ()), (count_both, (7,))]
        for function, rest in calls:
            self.assertEqual(function(ENGLISH, GERMAN, *rest), function(ENGLISH, GERMAN, *rest))
            with self.assertRaises(BadReader):
                function(ENGLISH, 5, *rest)
        self.assertEqual(count(ENGLISH, 30), count(ENGLISH, 30))
        self.assertEqual(parts(ENGLISH), (".", ",", 3, False, "ahead", False, False, False))
        self.assertEqual(parts(GERMAN), (",", ".", 3, False, "ahead", False, False, False))


class InterfaceTest(unittest.TestCase):
    def test_where_it_is_defined(self):
        for function in (alone, two_numbers, same, count, count_both):
            self.assertEqual(function.__module__, "readersapart.pairs")

    def test_by_keyword(self):
        self.assertEqual(
            [alone(one=ENGLISH, other=GERMAN), two_numbers(one=ENGLISH, other=GERMAN), same(one=ENGLISH, other=GERMAN),
             count(reader=ENGLISH, length=1), count_both(one=ENGLISH, other=GERMAN, length=1)],
            ["0.0", "1,000", False, 10, (10, 0)])

    def test_first_example(self):
        self.assertEqual(
            [alone(ENGLISH, GERMAN), alone(GERMAN, ENGLISH), two_numbers(ENGLISH, GERMAN), same(ENGLISH, GERMAN),
             same(GERMAN, GERMAN)],
            ["0.0", "0,0", "1,000", False, True])

    def test_second_example(self):
        self.assertEqual(
            [count(ENGLISH, 1), count(ENGLISH, 2), count(ENGLISH, 3), count_both(ENGLISH, GERMAN, 5),
             count(ENGLISH, 0)],
            [10, 100, 1090, (117000, 18000), 0])


if __name__ == "__main__":
    unittest.main()
