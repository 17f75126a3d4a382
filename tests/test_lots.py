import unittest
from itertools import combinations, product

from readersapart.errors import BadReaders, BadText, BadTexts
from readersapart.lots import parting, safety, takers, ways
from readersapart.pairs import same
from readersapart.readers import Reader, parts
from tests.grammar import all_parts, all_texts, worth_of
from tests.trial import CHOSEN, LOTS, VALUES, lot, parting_by_trial, safety_by_trial, trials

TWO = [
    Reader(".", ",", 3, False, "ahead", False, False, False),
    Reader(",", ".", 3, False, "ahead", False, False, False),
]


class Compared(unittest.TestCase):
    def assert_bad(self, error, index, function, *arguments):
        with self.assertRaises(error, msg=arguments) as caught:
            function(*arguments)
        self.assertEqual(caught.exception.index, index, arguments)


class SafetyTest(unittest.TestCase):
    def test_all_short_texts(self):
        texts = trials(CHOSEN, "01", 4)
        tried = all_texts("01.,' -e", 4)
        for many in (CHOSEN[:1], CHOSEN[:2], CHOSEN[1:4], CHOSEN[:4], CHOSEN[3:7]):
            found = [texts[told] for told in many]
            readers = lot(many)
            for text in tried:
                self.assertEqual(safety(readers, text), safety_by_trial(found, text), (many, text))

    def test_longer_texts(self):
        texts = trials(CHOSEN, "01", 7)
        for many in LOTS[::5]:
            found = [texts[told] for told in many]
            readers = tuple(lot(many))
            for text in sorted(set().union(*found), key=lambda text: text[::-1])[::37]:
                self.assertEqual(safety(readers, text), safety_by_trial(found, text), (many, text))

    def test_each_word(self):
        self.assertEqual([safety(TWO, text) for text in ("12", "1,000", "0.5", "x", "")],
                         ["safe", "apart", "partly", "refused", "refused"])

    def test_apart_goes_ahead_of_partly(self):
        figures = Reader("", "", 3, False, "none", False, False, False)
        readers = TWO + [Reader(".", "'", 3, True, "none", False, False, False), figures]
        self.assertEqual([safety(readers, "1,000"), safety(readers[1:], "1.000"), safety(readers[2:], "1,000")],
                         ["apart", "apart", "refused"])
        self.assertEqual([safety(readers, text) for text in ("-1", "1.5", "1234", "123")],
                         ["partly", "partly", "partly", "safe"])

    def test_nought_is_one_number(self):
        zeros = [Reader(".", ",", 3, False, "none", True, False, False),
                 Reader(",", ".", 3, False, "none", True, False, False)]
        self.assertEqual([safety(zeros, "0,000"), safety(zeros, "0,001"), safety(zeros, "00")],
                         ["safe", "apart", "safe"])

    def test_one_reader(self):
        self.assertEqual([safety(TWO[:1], "1.5"), safety(tuple(TWO[:1]), "1,5")], ["safe", "refused"])


class PartingTest(unittest.TestCase):
    def test_many_lots(self):
        texts = trials(CHOSEN, "01", 5)
        for many in LOTS:
            answer = parting(lot(many))
            tried = parting_by_trial([texts[told] for told in many])
            if answer is not None and len(answer) <= 5:
                self.assertEqual(answer, tried, many)
            else:
                self.assertIsNone(tried, many)
            self.assertEqual(parting(tuple(lot(many))), answer)

    def test_lots_of_all_kinds(self):
        many = all_parts()[::97]
        texts = trials(many, "01", 4)
        for chosen in list(combinations(many, 3)) + list(combinations(many, 4))[::5]:
            answer = parting(lot(chosen))
            self.assertEqual(answer if len(answer) <= 4 else None,
                             parting_by_trial([texts[told] for told in chosen]), chosen)

    def test_all_figures(self):
        texts = trials(CHOSEN[:5], "0123456789", 3)
        for many in combinations(CHOSEN[:5], 3):
            self.assertEqual(parting(lot(many)), parting_by_trial([texts[told] for told in many]), many)

    def test_none_just_if_all_are_the_same(self):
        for many in LOTS:
            readers = lot(many)
            alike = all(same(one, other) for one, other in combinations(readers, 2))
            self.assertEqual(parting(readers) is None, alike, many)

    def test_long_ones(self):
        three, two = (Reader(".", ",", rest, True, "none", False, False, False) for rest in (3, 2))
        self.assertEqual([parting([three, two]), parting([two, two, three])], ["100,000", "100,000"])
        # Alike but for one reading what is a comma for the other one as a point.
        self.assertEqual(parting(TWO), "0,0")
        self.assertEqual(parting([Reader("", ",", 3, True, "none", False, False, False),
                                  Reader(",", "", 3, False, "none", False, False, False)]), "0,0")
        without = [Reader("", comma, 2, True, "none", False, False, False) for comma in ("", "'", ",", ".")]
        self.assertEqual([parting(without), parting(without[1:]), parting(without[2:])], ["1000", "1'000", "1,000"])
        blank = Reader("", " ", 2, True, "none", False, False, False)
        self.assertEqual([parting(without[1:] + [blank]), parting([blank, without[3]])], ["1 000", "1 000"])

    def test_a_safe_text_is_not_told(self):
        readers = lot(CHOSEN[:4])
        self.assertNotIn(safety(readers, parting(readers)), ("safe", "refused"))
        self.assertIsNone(parting([TWO[0]]))
        self.assertIsNone(parting([TWO[0]] * 4))


class TakersTest(Compared):
    def test_many_texts(self):
        texts = trials(CHOSEN, "01", 4)
        tried = ["1", "1.0", "-1", "1,0", "1e1", "00", " 1", "1000", "x"]
        for many in LOTS[:60]:
            for row in [[text] for text in tried] + [list(pair) for pair in combinations(tried, 2)]:
                found = [all(text in texts[told] for text in row) for told in many]
                places = [at for at, taken in enumerate(found) if taken]
                self.assertEqual(takers(lot(many), row), places, (many, row))

    def test_ways_of_many_texts(self):
        texts = trials(CHOSEN, "01", 5)
        tried = ["1", "0,000", "1,000", "1.000", "1.0", "1e1", "-1"]
        for many in LOTS:
            for row in [[text] for text in tried] + [list(pair) for pair in combinations(tried, 2)]:
                self.assert_ways(ways(lot(many), row), [[texts[told].get(text) for text in row] for told in many])

    def assert_ways(self, found, rows):
        expected = {}
        for place, row in enumerate(rows):
            if None not in row:
                expected.setdefault(tuple(row), []).append(place)
        self.assertEqual([(tuple(worth_of(number) for number in numbers), list(places)) for numbers, places in found],
                         list(expected.items()))
        for numbers, places in found:
            self.assertEqual([type(numbers), type(places)], [tuple, tuple])

    def test_in_the_order_of_their_first_readers(self):
        readers = [TWO[1], TWO[0], TWO[0], TWO[1]]
        self.assertEqual(ways(readers, ["1.000"]), [(((1, 3),), (0, 3)), (((1, 0),), (1, 2))])
        self.assertEqual(ways(readers[1:], ["1.000"]), [(((1, 0),), (0, 1)), (((1, 3),), (2,))])
        self.assertEqual(ways(readers, ["1.000", "1,000"]),
                         [(((1, 3), (1, 0)), (0, 3)), (((1, 0), (1, 3)), (1, 2))])
        self.assertEqual(ways(readers, ["1.000", "1.5"]), [(((1, 0), (15, -1)), (1, 2))])
        self.assertEqual([takers(readers, ["1.000", "1.5"]), takers(readers, ["1.5", "1,5"])], [[1, 2], []])
        self.assertEqual(ways(readers, ["1.5", "1,5"]), [])

    def test_texts_that_are_alike(self):
        self.assertEqual(ways(TWO, ("1", "1.0", "1")), [(((1, 0), (1, 0), (1, 0)), (0,))])
        self.assertEqual(takers(TWO, ("1", "1", "1")), [0, 1])

    def test_twenty_texts(self):
        self.assertEqual(takers(TWO, ["1"] * 20), [0, 1])
        self.assertEqual(takers(TWO, ("1",) * 19 + ("1.5",)), [0])
        self.assertEqual(ways(TWO, ("1",) * 20), [(((1, 0),) * 20, (0, 1))])
        self.assertEqual(ways(TWO, ["x"] + ["1"] * 19), [])
        for function in (takers, ways):
            for texts in (["1"] * 21, ("1",) * 21, ["x"] * 21, [5] * 21, [], ()):
                self.assert_bad(BadTexts, None, function, TWO, texts)

    def test_long_texts(self):
        self.assertEqual(takers(TWO, ["9" * 100]), [0, 1])
        for function in (takers, ways):
            self.assert_bad(BadTexts, 1, function, TWO, ["9" * 100, "9" * 101])


class WrongValuesTest(Compared):
    def test_no_readers(self):
        for function, rest in ((safety, ("1",)), (parting, ()), (takers, (["1"],)), (ways, (["1"],))):
            for value in [0, 1, True, None, "", "12", {}, {TWO[0].point: 5}, TWO[0], [], (), TWO * 2 + TWO[:1],
                          tuple(TWO * 3), [5] * 5]:
                self.assert_bad(BadReaders, None, function, value, *rest)
            for value in VALUES + [parts(TWO[0]), [TWO[0]]]:
                self.assert_bad(BadReaders, 0, function, [value], *rest)
                self.assert_bad(BadReaders, 1, function, (TWO[0], value, TWO[1], value), *rest)
                self.assert_bad(BadReaders, 3, function, TWO + [TWO[0], value], *rest)

    def test_one_to_four_readers(self):
        for many in (1, 2, 3, 4):
            for readers in ((TWO * 2)[:many], tuple((TWO * 2)[:many])):
                self.assertEqual(safety(readers, "12"), "safe")
                self.assertEqual(takers(readers, ["12"]), list(range(many)))
                self.assertEqual(ways(readers, ["12"]), [(((12, 0),), tuple(range(many)))])
                self.assertEqual(parting(readers), None if many == 1 else "0,0")

    def test_no_readers_ahead_of_no_texts(self):
        for text in VALUES:
            self.assert_bad(BadReaders, 1, safety, [TWO[0], 5], text)
            for function in (safety, takers, ways):
                self.assert_bad(BadReaders, None, function, [], text)

    def test_no_text(self):
        for value in [value for value in VALUES if not isinstance(value, str)] + ["9" * 101, TWO[0]]:
            with self.assertRaises(BadText):
                safety(TWO, value)
        self.assertEqual(safety(TWO, "9" * 100), "safe")

    def test_no_texts(self):
        for function in (takers, ways):
            for value in [0, True, None, "", "12", {}, {"1": 1}, [], ()]:
                self.assert_bad(BadTexts, None, function, TWO, value)
            for value in [value for value in VALUES if not isinstance(value, str)] + ["9" * 101]:
                self.assert_bad(BadTexts, 0, function, TWO, [value, 5])
                self.assert_bad(BadTexts, 2, function, TWO, ("x", "", value))
                self.assert_bad(BadTexts, 19, function, TWO, ["1"] * 19 + [value])

    def test_nothing_is_changed(self):
        readers, texts = list(TWO), ["1.000", "7"]
        for function in (takers, ways):
            first, second = function(readers, texts), function(readers, texts)
            self.assertEqual(first, second)
            self.assertIsNot(first, second)
            first.append(5)
            self.assertEqual(function(readers, texts), second)
            with self.assertRaises(BadTexts):
                function(readers, [5])
        self.assertEqual([parting(readers), safety(readers, "7")], [parting(readers), safety(readers, "7")])
        self.assertEqual([readers, texts], [TWO, ["1.000", "7"]])


class InterfaceTest(unittest.TestCase):
    def test_where_it_is_defined(self):
        for function in (safety, parting, takers, ways):
            self.assertEqual(function.__module__, "readersapart.lots")

    def test_by_keyword(self):
        self.assertEqual(
            [safety(readers=TWO, text="1"), parting(readers=TWO), takers(readers=TWO, texts=["1"]),
             ways(readers=TWO, texts=["1"])],
            ["safe", "0,0", [0, 1], [(((1, 0),), (0, 1))]])

    def test_first_example(self):
        self.assertEqual(
            [safety(TWO, "12"), safety(TWO, "1,000"), safety(TWO, "0.5"), safety(TWO, "x"), parting(TWO),
             parting(TWO[:1])],
            ["safe", "apart", "partly", "refused", "0,0", None])

    def test_second_example(self):
        self.assertEqual(
            [takers(TWO, ["1.5", "2"]), ways(TWO, ["1.000"]), ways(TWO, ["7", "8"])],
            [[0], [(((1, 0),), (0,)), (((1, 3),), (1,))], [(((7, 0), (8, 0)), (0, 1))]])


if __name__ == "__main__":
    unittest.main()
