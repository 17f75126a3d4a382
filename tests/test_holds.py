import unittest
from itertools import combinations, product

from readersapart.chains import passed, rounds
from readersapart.edits import edits, nearest
from readersapart.lots import parting, safety
from readersapart.offs import off
from readersapart.pairs import alone, count, count_both, same, two_numbers
from readersapart.ranks import parting_at, parting_many, place_of, text_at
from readersapart.readers import Reader
from readersapart.reading import means, takes
from readersapart.splits import fewest_texts, splits, tell_apart, texts_for
from readersapart.told import fitting
from readersapart.writing import written
from tests.grammar import all_parts
from tests.trial import trials

SOME = all_parts()[::23]


def changed(told, at, value):
    return told[:at] + (value,) + told[at + 1:]


def crossed_signs(one, other):
    """The signs that are the point of one reader and the comma of the other one."""
    return [point for point, comma in ((one[0], other[1]), (other[0], one[1])) if point == comma != ""]


class HoldsTest(unittest.TestCase):
    def test_no_text_alone_means_the_same_texts(self):
        texts = trials(SOME, "01", 5)
        for one, other in product(SOME, repeat=2):
            first, second = Reader(*one), Reader(*other)
            if alone(first, second) is None:
                self.assertTrue(set(texts[one]) <= set(texts[other]), (one, other))
                for length in (5, 30):
                    self.assertEqual(count_both(first, second, length)[0], count(first, length), (one, other))

    def test_no_text_of_any_kind_means_the_same_readers(self):
        many = [told for told in all_parts() if told[4:] == ("ahead", False, False, True)]
        texts = trials(many, "01", 7)
        alike = 0
        for one, other in product(many, repeat=2):
            first, second = Reader(*one), Reader(*other)
            told = (alone(first, second), alone(second, first), two_numbers(first, second))
            self.assertIs(same(first, second), told == (None, None, None), (one, other))
            if same(first, second):
                alike += 1
                self.assertEqual(texts[one], texts[other], (one, other))
                for length in (0, 1, 8, 30):
                    self.assertEqual(count_both(first, second, length), (count(first, length), 0))
        # All with a comma by themselves, and the four without one, for each of three points, together.
        self.assertEqual(alike, len(many) - 3 * 4 + 3 * 16)

    def test_two_numbers_come_of_a_point_that_is_a_comma(self):
        for one, other in product(SOME, repeat=2):
            text = two_numbers(Reader(*one), Reader(*other))
            crossed = crossed_signs(one, other)
            self.assertEqual(text is not None, crossed != [], (one, other))
            if text is not None:
                self.assertTrue(any(sign in text for sign in crossed), (one, other, text))

    def test_two_numbers_in_a_trial(self):
        texts = trials(SOME, "01", 6)
        for one, other in combinations(SOME, 2):
            for text in texts[one]:
                if text in texts[other] and texts[one][text] != texts[other][text]:
                    self.assertEqual(safety([Reader(*one), Reader(*other)], text), "apart")
                    self.assertTrue(any(sign in text for sign in crossed_signs(one, other)))

    def test_numbers_are_taken_as_they_are_written(self):
        numbers = [(0, 0)] + [(n, k) for n in (1, -7, 15, 1001, -123456, 10 ** 30 - 1) for k in (-30, -3, -1, 0, 2, 30)]
        for told, number in product(all_parts(), numbers):
            text = written(Reader(*told), number)
            lacking = (number[0] < 0 and told[4] == "none") or (number[1] < 0 and told[0] == "")
            self.assertEqual(text is None, lacking, (told, number))
            if text is not None:
                self.assertTrue(takes(Reader(*told), text), (told, number, text))
                self.assertEqual(means(Reader(*told), text), number, (told, text))

    def test_more_is_taken_with_zeros_blanks_or_exponent(self):
        for told, at in product(all_parts(), (5, 6, 7)):
            if not (at == 6 and told[1] == " "):
                less, more = Reader(*changed(told, at, False)), Reader(*changed(told, at, True))
                self.assertIsNone(alone(less, more), (told, at))
                self.assertIsNotNone(alone(more, less), (told, at))
                self.assertIsNone(two_numbers(less, more), (told, at))

    def test_powers_are_three_alone(self):
        found = {}
        for one, other in product(SOME, all_parts()[::7]):
            powers = [power for power, _ in off(Reader(*one), Reader(*other))]
            self.assertEqual(powers, sorted(set(powers)))
            found.update(dict.fromkeys(powers))
        self.assertEqual(sorted(found), [-3, 3])


class HoldsFurtherTest(unittest.TestCase):
    def test_texts_and_places_undo_one_another(self):
        texts = trials(SOME, "01", 5)
        for told in SOME:
            reader = Reader(*told)
            for text in sorted(texts[told])[::31]:
                self.assertEqual(text_at(reader, len(text), place_of(reader, text)), text, told)
            for length in (1, 3, 11, 29):
                many = count(reader, length)
                for index in {0, many // 7, many // 2, many - 1} if many else set():
                    self.assertEqual(place_of(reader, text_at(reader, length, index)), index, told)

    def test_none_part_two_just_if_they_are_the_same(self):
        many = [told for told in all_parts() if told[4:] == ("behind", True, False, False)][::2]
        for one, other in product(many, repeat=2):
            first, second = Reader(*one), Reader(*other)
            # The shortest text that parts two readers has at most ten signs.
            none = all(parting_many(first, second, length) == 0 for length in range(11))
            self.assertEqual(none, same(first, second), (one, other))

    def test_parting_is_the_least_of_the_splits(self):
        for chosen in list(combinations(SOME, 2))[::9] + list(combinations(SOME, 4))[::1999]:
            readers = [Reader(*told) for told in chosen]
            texts = [text for labels, text in splits(readers) if len(set(labels)) > 1]
            self.assertEqual(parting(readers), min(texts, key=lambda text: (len(text), text), default=None), chosen)
            if len(readers) == 2 and texts:
                text = parting(readers)
                self.assertEqual(parting_at(*readers, len(text), 0), text)
                self.assertEqual([parting_many(*readers, length) for length in range(len(text))], [0] * len(text))

    def test_so_few_texts_tell_readers_apart(self):
        for chosen in list(combinations(SOME, 3))[::211]:
            readers = [Reader(*told) for told in chosen]
            texts = texts_for(readers)
            self.assertEqual(len(texts), fewest_texts(readers))
            self.assertTrue(tell_apart(readers, texts or ["0"]), chosen)

    def test_taken_just_if_no_edits_are_needed(self):
        tried = ["0", "1,000", "1.000", "1'000", "-1", "1-", " 1", "01", "1e5", "1000.5", "", "x", "1,00", "-", "1..5"]
        for told, text in product(SOME, tried):
            reader = Reader(*told)
            self.assertEqual(edits(reader, text) == 0, takes(reader, text), (told, text))
            self.assertLessEqual(edits(reader, text), max(1, len(text)), (told, text))
            if takes(reader, text):
                self.assertEqual(nearest(reader, text), text, told)
            else:
                self.assertTrue(takes(reader, nearest(reader, text)), (told, text))

    def test_one_reader_alone_changes_no_number(self):
        numbers = [(0, 0)] + [(n, k) for n in (1, -7, 1001, -123456, 10 ** 30 - 1) for k in (-30, -3, 0, 30)]
        for told, number in product(SOME, numbers):
            reader = Reader(*told)
            chain = ((reader, reader),) * 6
            stays = written(reader, number) is not None
            self.assertEqual(passed(chain, number), [number] * 6 if stays else [], (told, number))
            self.assertEqual(rounds(chain, number), ((), (number,)) if stays else ((number,), ()), (told, number))

    def test_what_a_reader_writes_agrees_with_it(self):
        for told in SOME[::3]:
            numbers = [number for number in ((7, 0), (-7, 0), (1234567, 0), (5, -1), (1, 5))
                       if written(Reader(*told), number) is not None]
            self.assertIn(told, fitting([written(Reader(*told), number) for number in numbers], numbers))


if __name__ == "__main__":
    unittest.main()
