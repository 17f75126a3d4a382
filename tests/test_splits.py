import unittest
from itertools import combinations, product

from readersapart.errors import BadReaders, BadTexts
from readersapart.lots import parting
from readersapart.pairs import same
from readersapart.readers import Reader
from readersapart.splits import fewest_texts, splits, tell_apart, texts_for
from tests.grammar import all_parts
from tests.trial import CHOSEN, LOTS, VALUES, in_order, lot, trials, worths

ONE = Reader(".", ",", 3, False, "ahead", False, False, False)
OTHER = Reader(",", ".", 3, False, "ahead", False, False, False)

# Readers without a comma: what else tells of groups is one to them.
PLAIN = [("", "", rest, must, "none", False, False, False) for rest in (3, 2) for must in (False, True)]


def labels_by_trial(many, text):
    """The labels of a text, told from dicts of the worths of texts for each reader."""
    told = worths(many, text)
    found = [worth for worth in told if worth is not None]
    return tuple(0 if worth is None else 1 if worth == found[0] else 2 for worth in told)


def splits_by_trial(many):
    """A dict from all labels that the texts of a trial have, to the first text that has them."""
    found = {}
    for text in [""] + in_order(set().union(*many)):
        found.setdefault(labels_by_trial(many, text), text)
    return found


def fewest_by_trial(rows, pairs):
    """The least number of labels that part all pairs of places."""
    for many in range(len(rows) + 1):
        for chosen in combinations(rows, many):
            if all(any(labels[one] != labels[other] for labels in chosen) for one, other in pairs):
                return many
    raise AssertionError(rows)


def unlike_pairs(readers):
    return [(one, other) for one, other in combinations(range(len(readers)), 2)
            if not same(readers[one], readers[other])]


class SplitsTest(unittest.TestCase):
    def assert_as_trial(self, many, texts, longest):
        tried = splits_by_trial([texts[told] for told in many])
        answer = splits(lot(many))
        self.assertEqual(answer, sorted(answer), many)
        self.assertEqual(len(dict(answer)), len(answer), many)
        self.assertEqual({labels: text for labels, text in answer if len(text) <= longest}, tried, many)

    def test_many_lots(self):
        texts = trials(CHOSEN, "01", 6)
        for many in LOTS:
            self.assert_as_trial(many, texts, 6)

    def test_lots_of_all_kinds(self):
        many = all_parts()[::61]
        texts = trials(many, "01", 4)
        for chosen in list(combinations(many, 3))[::3] + list(combinations(many, 4))[::17]:
            self.assert_as_trial(chosen, texts, 4)

    def test_all_figures(self):
        texts = trials(CHOSEN[:4], "0123456789", 3)
        for many in combinations(CHOSEN[:4], 3):
            self.assert_as_trial(many, texts, 3)

    def test_long_ones(self):
        three, two = (Reader(".", ",", rest, True, "none", False, False, False) for rest in (3, 2))
        self.assertEqual(splits([three, two]),
                         [((0, 0), ""), ((0, 1), "1,00,000"), ((1, 0), "100,000"), ((1, 1), "0")])
        self.assertEqual(splits((two, three, three)),
                         [((0, 0, 0), ""), ((0, 1, 1), "100,000"), ((1, 0, 0), "1,00,000"), ((1, 1, 1), "0")])

    def test_the_first_that_takes_it_has_the_label_1(self):
        none = Reader("", "", 3, True, "none", False, False, False)
        found = dict(splits([none, ONE, OTHER, ONE]))
        self.assertEqual([found[labels] for labels in ((0, 1, 2, 1), (0, 1, 0, 1), (0, 0, 1, 0), (1, 1, 1, 1))],
                         ["1,000", "0.0", "0,0", "0"])
        self.assertNotIn((0, 2, 1, 2), found)
        self.assertEqual(dict(splits([none, OTHER, ONE]))[(0, 1, 2)], "1,000")

    def test_one_reader_and_like_ones(self):
        self.assertEqual(splits([ONE]), [((0,), ""), ((1,), "0")])
        self.assertEqual(splits((ONE, ONE)), [((0, 0), ""), ((1, 1), "0")])
        self.assertEqual(splits(lot(PLAIN)), [((0,) * 4, ""), ((1,) * 4, "0")])

    def test_parting_is_the_least_of_them(self):
        for many in LOTS + list(combinations(all_parts()[::97], 3)):
            readers = lot(many)
            texts = [text for labels, text in splits(readers) if len(set(labels)) > 1]
            self.assertEqual(parting(readers), min(texts, key=lambda text: (len(text), text), default=None), many)


class FewestTest(unittest.TestCase):
    def test_many_lots(self):
        for many in LOTS + list(combinations(all_parts()[::97], 4))[::5]:
            readers = lot(many)
            pairs = unlike_pairs(readers)
            fewest = fewest_by_trial([labels for labels, _ in splits(readers)], pairs)
            self.assertEqual(fewest_texts(readers), fewest, many)
            texts = texts_for(tuple(readers))
            self.assertEqual((type(texts), len(texts)), (list, fewest), many)
            if texts:
                self.assertIs(tell_apart(readers, texts), True, (many, texts))
                for text in texts:
                    self.assertEqual(len(texts) == 1, tell_apart(readers, [text]), (many, texts))

    def test_by_trial(self):
        texts = trials(CHOSEN, "01", 6)
        for many in combinations(CHOSEN, 4):
            found = splits_by_trial([texts[told] for told in many])
            self.assertEqual(fewest_texts(lot(many)), fewest_by_trial(list(found), list(combinations(range(4), 2))))

    def test_each_number_of_texts(self):
        points = [Reader(point, "", 3, False, "none", False, False, False) for point in (".", ",", "")]
        self.assertEqual([fewest_texts(points[:many]) for many in (1, 2, 3)], [0, 1, 2])
        self.assertEqual(texts_for(points[:1]), [])
        commas = [Reader("", comma, 3, False, "none", False, False, False) for comma in ("'", ",", ".", " ")]
        self.assertEqual([fewest_texts(commas[:many]) for many in (1, 2, 3, 4)], [0, 1, 2, 3])
        self.assertLessEqual(set(texts_for(commas[:3])), {"1'000", "1,000", "1.000"})
        # One text tells three apart if it means two numbers, and one reader does not take it.
        three = [ONE, OTHER, Reader("", "", 3, False, "none", False, False, False)]
        self.assertEqual([fewest_texts(three), tell_apart(three, ["1,000"])], [1, True])

    def test_the_same_need_no_texts(self):
        self.assertEqual([fewest_texts(lot(PLAIN)), texts_for(lot(PLAIN)), fewest_texts([ONE] * 4)], [0, [], 0])
        self.assertEqual([fewest_texts([ONE, OTHER, ONE, OTHER]), fewest_texts([ONE])], [1, 0])
        self.assertEqual(fewest_texts(lot(PLAIN[:3]) + [ONE]), 1)

    def test_it_is_an_integer(self):
        self.assertIs(type(fewest_texts([ONE])), int)


class TellApartTest(unittest.TestCase):
    def test_many_texts(self):
        texts = trials(CHOSEN, "01", 5)
        tried = ["", "0", "0.0", "0,0", "1,000", "1.000", "1000", "00", "-0", "0-", " 0", "1e1", "x", "1'000"]
        for many in LOTS[::3]:
            readers, found = lot(many), [texts[told] for told in many]
            pairs = unlike_pairs(readers)
            for chosen in list(combinations(tried, 2))[::3] + list(combinations(tried, 4))[::61]:
                rows = [labels_by_trial(found, text) for text in chosen]
                told = all(any(labels[one] != labels[other] for labels in rows) for one, other in pairs)
                self.assertIs(tell_apart(readers, chosen), told, (many, chosen))

    def test_the_same_are_told_apart_by_any(self):
        for texts in (["0"], ["x", ""], ("1,000",) * 20):
            self.assertIs(tell_apart([ONE, ONE], texts), True)
            self.assertIs(tell_apart(lot(PLAIN), texts), True)
            self.assertIs(tell_apart([OTHER], texts), True)

    def test_some(self):
        self.assertEqual([tell_apart([ONE, OTHER], texts) for texts in (["1,000"], ["0", "x"], ["0", "0.0"], [" 1"])],
                         [True, False, True, False])
        three = [ONE, OTHER, Reader("", "", 3, False, "ahead", False, False, False)]
        self.assertEqual([tell_apart(three, texts) for texts in (["0.0"], ["0,0"], ["0.0", "0,0"], ["1.000"])],
                         [False, False, True, True])


class WrongValuesTest(unittest.TestCase):
    def assert_bad(self, error, index, function, *arguments):
        with self.assertRaises(error, msg=arguments) as caught:
            function(*arguments)
        self.assertEqual(caught.exception.index, index, arguments)

    def test_no_readers(self):
        for value, index in (([], None), ((), None), ([ONE] * 5, None), (ONE, None), (None, None), (True, None),
                             ("1", None), ({}, None), ([5], 0), ((ONE, True), 1), ([ONE, OTHER, []], 2),
                             ([ONE, None, 5], 1)):
            for function in (splits, fewest_texts, texts_for):
                self.assert_bad(BadReaders, index, function, value)
            for texts in (["0"], [], None, [5]):
                self.assert_bad(BadReaders, index, tell_apart, value, texts)
        for value in VALUES:
            if not isinstance(value, (list, tuple)) or not value:
                self.assert_bad(BadReaders, None, splits, value)

    def test_no_texts(self):
        for value, index in (([], None), ((), None), (["0"] * 21, None), ("0", None), (None, None), (5, None),
                             ({"0": "0"}, None), ([5], 0), (("0", True), 1), (["0", "1", "1" * 101], 2),
                             (["0", ["0"], None], 1)):
            self.assert_bad(BadTexts, index, tell_apart, [ONE, OTHER], value)
            self.assert_bad(BadTexts, index, tell_apart, [ONE], value)

    def test_nothing_is_changed(self):
        readers = [ONE, OTHER]
        splits(readers).clear()
        texts_for(readers).clear()
        self.assertEqual(splits(readers), splits(readers))
        self.assertEqual(texts_for(readers), texts_for(readers))
        self.assertEqual((len(splits(readers)), len(texts_for(readers)), readers), (5, 1, [ONE, OTHER]))


class InterfaceTest(unittest.TestCase):
    def test_where_it_is_defined(self):
        for function in (splits, fewest_texts, texts_for, tell_apart):
            self.assertEqual(function.__module__, "readersapart.splits")

    def test_by_keyword(self):
        self.assertEqual(
            [splits(readers=[ONE]), fewest_texts(readers=[ONE]), texts_for(readers=[ONE]),
             tell_apart(readers=[ONE], texts=["0"])],
            [[((0,), ""), ((1,), "0")], 0, [], True])

    def test_examples(self):
        self.assertEqual(splits((ONE, OTHER)), [((0, 0), ""), ((0, 1), "0,0"), ((1, 0), "0.0"), ((1, 1), "0"),
                                                ((1, 2), "1,000")])
        self.assertEqual(
            [fewest_texts((ONE, OTHER)), fewest_texts((ONE, ONE)), texts_for([ONE]),
             tell_apart((ONE, OTHER), ["0,0"]), tell_apart((ONE, OTHER), ["0"])],
            [1, 0, [], True, False])


if __name__ == "__main__":
    unittest.main()
