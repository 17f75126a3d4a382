import unittest
from itertools import combinations, product

from readersapart.lots import safety
from readersapart.offs import off
from readersapart.pairs import alone, count, count_both, same, two_numbers
from readersapart.readers import Reader
from readersapart.reading import means, takes
from readersapart.writing import written
from tests.grammar import all_parts
from tests.trial import trials

SOME = all_parts()[::23]


def changed(told, at, value):
    return told[:at] + (value,) + told[at + 1:]


def crossed_signs(one, other):
    """The signs that are the point of one reader and the comma of the other one."""
    return [point for point, comma in ((one[0], other[1]), (other[0], one[1])) if point == comma != ""]


class HoldsTest(unittest.TestCase):
    def test_no_text_alone_means_the_same_texts(self):
        texts = trials(SOME, "01", 5)
        for one, other in product(SOME, repeat=2):
            first, second = Reader(*one), Reader(*other)
            if alone(first, second) is None:
                self.assertTrue(set(texts[one]) <= set(texts[other]), (one, other))
                for length in (5, 30):
                    self.assertEqual(count_both(first, second, length)[0], count(first, length), (one, other))

    def test_no_text_of_any_kind_means_the_same_readers(self):
        many = [told for told in all_parts() if told[4:] == ("ahead", False, False, True)]
        texts = trials(many, "01", 7)
        alike = 0
        for one, other in product(many, repeat=2):
            first, second = Reader(*one), Reader(*other)
            told = (alone(first, second), alone(second, first), two_numbers(first, second))
            self.assertIs(same(first, second), told == (None, None, None), (one, other))
            if same(first, second):
                alike += 1
                self.assertEqual(texts[one], texts[other], (one, other))
                for length in (0, 1, 8, 30):
                    self.assertEqual(count_both(first, second, length), (count(first, length), 0))
        # All with a comma by themselves, and the four without one, for each of three points, together.
        self.assertEqual(alike, len(many) - 3 * 4 + 3 * 16)

    def test_two_numbers_come_of_a_point_that_is_a_comma(self):
        for one, other in product(SOME, repeat=2):
            text = two_numbers(Reader(*one), Reader(*other))
            crossed = crossed_signs(one, other)
            self.assertEqual(text is not None, crossed != [], (one, other))
            if text is not None:
                self.assertTrue(any(sign in text for sign in crossed), (one, other, text))

    def test_two_numbers_in_a_trial(self):
        texts = trials(SOME, "01", 6)
        for one, other in combinations(SOME, 2):
            for text in texts[one]:
                if text in texts[other] and texts[one][text] != texts[other][text]:
                    self.assertEqual(safety([Reader(*one), Reader(*other)], text), "apart")
                    self.assertTrue(any(sign in text for sign in crossed_signs(one, other)))

    def test_numbers_are_taken_as_they_are_written(self):
        numbers = [(0, 0)] + [(n, k) for n in (1, -7, 15, 1001, -123456, 10 ** 30 - 1) for k in (-30, -3, -1, 0, 2, 30)]
        for told, number in product(all_parts(), numbers):
            text = written(Reader(*told), number)
            lacking = (number[0] < 0 and told[4] == "none") or (number[1] < 0 and told[0] == "")
            self.assertEqual(text is None, lacking, (told, number))
            if text is not None:
                self.assertTrue(takes(Reader(*told), text), (told, number, text))
                self.assertEqual(means(Reader(*told), text), number, (told, text))

    def test_more_is_taken_with_zeros_blanks_or_exponent(self):
        for told, at in product(all_parts(), (5, 6, 7)):
            if not (at == 6 and told[1] == " "):
                less, more = Reader(*changed(told, at, False)), Reader(*changed(told, at, True))
                self.assertIsNone(alone(less, more), (told, at))
                self.assertIsNotNone(alone(more, less), (told, at))
                self.assertIsNone(two_numbers(less, more), (told, at))

    def test_powers_are_three_alone(self):
        found = {}
        for one, other in product(SOME, all_parts()[::7]):
            powers = [power for power, _ in off(Reader(*one), Reader(*other))]
            self.assertEqual(powers, sorted(set(powers)))
            found.update(dict.fromkeys(powers))
        self.assertEqual(sorted(found), [-3, 3])


if __name__ == "__main__":
    unittest.main()
