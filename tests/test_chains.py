import unittest
from itertools import product

from readersapart.chains import passed, rounds
from readersapart.errors import BadChain, BadNumber
from readersapart.readers import Reader
from readersapart.reading import means, takes
from readersapart.writing import written
from tests.grammar import all_parts, worth_of
from tests.trial import VALUES, trials, written_by_trial

ONE = Reader(".", ",", 3, False, "ahead", False, False, False)
OTHER = Reader(",", ".", 3, False, "ahead", False, False, False)
WHOLE = Reader("", "", 3, False, "none", False, False, False)

CHOSEN = [
    (".", ",", 3, False, "ahead", False, False, False),
    (",", ".", 3, False, "ahead", True, False, True),
    (".", ",", 2, True, "behind", True, True, True),
    ("", ".", 2, False, "none", True, False, False),
    (",", "", 3, False, "ahead", False, False, False),
    (".", "'", 3, True, "none", False, False, True),
]

NUMBERS = [
    (0, 0), (1, 0), (-1, 0), (5, -1), (1, 3), (-1, 3), (1234, 0), (1234, -3), (-1234, -3), (123456, 0), (1, 6),
    (1234567, -3), (1001, -3), (1, -3), (12, -3), (123456, -3), (1, 5), (1, 30), (1, -30), (10 ** 30 - 1, 0),
]


def passed_by_steps(chain, number):
    """passed, by what the document says of written, takes and means."""
    found = []
    for writer, reader in chain:
        text = written(writer, number)
        if text is None or not takes(reader, text):
            break
        number = means(reader, text)
        found.append(number)
    return found


def rounds_by_steps(chain, number):
    """rounds, told from a long row of rounds."""
    row = [number]
    while len(row) < 60:
        found = passed_by_steps(chain, row[-1])
        if len(found) < len(chain):
            return tuple(row), ()
        row.append(found[-1])
    # What stands at the end of so long a row comes again and again.
    ring = row.index(row[-1])
    size = row[ring + 1:].index(row[ring]) + 1
    while ring > 0 and row[ring - 1] == row[ring - 1 + size]:
        ring -= 1
    return tuple(row[:ring]), tuple(row[ring:ring + size])


class PassedTest(unittest.TestCase):
    def test_one_pair(self):
        for writer, reader in product(map(lambda told: Reader(*told), CHOSEN), repeat=2):
            for number in NUMBERS:
                self.assertEqual(passed(((writer, reader),), number), passed_by_steps(((writer, reader),), number))

    def test_one_pair_by_trial(self):
        texts = trials(CHOSEN, "01", 7)
        for writer, reader in product(CHOSEN, repeat=2):
            chain = ((Reader(*writer), Reader(*reader)),)
            for worth, text in list(written_by_trial(writer, texts[writer]).items())[::5]:
                found = passed(chain, means(chain[0][0], text))
                self.assertEqual([worth_of(number) for number in found],
                                 [texts[reader][text]] if text in texts[reader] else [], (writer, reader, text))

    def test_several_pairs(self):
        readers = [Reader(*told) for told in CHOSEN]
        pairs = list(product(readers, repeat=2))
        many = 0
        for first, second, third in zip(pairs, pairs[5:] + pairs[:5], pairs[17:] + pairs[:17]):
            for number in NUMBERS:
                found = passed((first, second, third), number)
                self.assertEqual(found, passed_by_steps((first, second, third), number))
                many += len(found) == 3
        self.assertGreater(many, 50)

    def test_where_it_ends(self):
        three = ((ONE, OTHER), (OTHER, WHOLE), (WHOLE, ONE))
        self.assertEqual(passed(three, (7, 0)), [(7, 0)] * 3)
        # The last writer has groups, and the reader none.
        self.assertEqual(passed(three, (1234, -3)), [(1234, 0)])
        # The first reader does not take it, or the first writer does not write it.
        self.assertEqual(passed(three, (5, -1)), [])
        self.assertEqual(passed(((WHOLE, ONE), (ONE, ONE)), (5, -1)), [])
        self.assertEqual(passed(((WHOLE, ONE), (ONE, ONE)), (-5, 0)), [])
        # The second writer has no point, and no sign.
        self.assertEqual(passed(((ONE, ONE), (WHOLE, WHOLE)), (5, -1)), [(5, -1)])
        self.assertEqual(passed(((ONE, ONE), (ONE, ONE), (WHOLE, WHOLE), (ONE, ONE)), (-5, 0)), [(-5, 0)] * 2)

    def test_six_pairs(self):
        self.assertEqual(passed(((ONE, OTHER),) * 6, (1234, -3)), [(1234, 0), (1234, -3)] * 3)
        self.assertEqual(passed(((ONE, OTHER),) * 6, (1, 3)), [(1, 0)] * 6)
        self.assertEqual(passed(((ONE, ONE),) * 6, (10 ** 30 - 1, 30)), [(10 ** 30 - 1, 30)] * 6)

    def test_by_a_thousand(self):
        points = Reader(",", "", 3, False, "none", False, False, False)
        self.assertEqual(passed(((ONE, points), (OTHER, WHOLE), (ONE, ONE)), (123456, 0)), [(123456, -3)])
        self.assertEqual(passed(((ONE, points), (OTHER, ONE), (ONE, ONE)), (123456, 0)),
                         [(123456, -3), (123456, 0), (123456, 0)])
        self.assertEqual(passed(((ONE, points), (points, ONE), (ONE, points)), (123456, 0)),
                         [(123456, -3), (123456, 0), (123456, -3)])

    def test_what_is_told_is_new(self):
        chain = ((ONE, OTHER), (OTHER, ONE))
        passed(chain, (1, 0)).clear()
        self.assertEqual(passed(chain, (1, 0)), [(1, 0), (1, 0)])
        self.assertEqual(chain, ((ONE, OTHER), (OTHER, ONE)))


class RoundsTest(unittest.TestCase):
    def test_one_pair(self):
        readers = [Reader(*told) for told in CHOSEN]
        for pair in product(readers, repeat=2):
            for number in NUMBERS:
                self.assertEqual(rounds((pair,), number), rounds_by_steps((pair,), number))

    def test_several_pairs(self):
        readers = [Reader(*told) for told in CHOSEN]
        pairs = list(product(readers, repeat=2))
        kinds = set()
        for chain in list(product(pairs, repeat=2))[::3] + list(product(pairs[::5], repeat=3)):
            for number in NUMBERS[::2]:
                ahead, ring = rounds(chain, number)
                self.assertEqual((ahead, ring), rounds_by_steps(chain, number))
                kinds.add((min(len(ahead), 2), min(len(ring), 2)))
        self.assertLessEqual({(0, 1), (0, 2), (1, 0), (1, 1), (2, 0)}, kinds)

    def test_rings(self):
        self.assertEqual(rounds(((ONE, OTHER),), (1234, 0)), ((), ((1234, 0), (1234, -3))))
        self.assertEqual(rounds(((ONE, OTHER), (ONE, OTHER)), (1234, 0)), ((), ((1234, 0),)))
        self.assertEqual(rounds(((ONE, OTHER),) * 3, (1234, 0)), ((), ((1234, 0), (1234, -3))))
        self.assertEqual(rounds(((ONE, OTHER),), (0, 0)), ((), ((0, 0),)))
        self.assertEqual(rounds(((ONE, OTHER),), (-12001, -3)), ((), ((-12001, -3), (-12001, 0))))

    def test_what_comes_once(self):
        # "1,000" is 1, and 1 is 1.
        self.assertEqual(rounds(((ONE, OTHER),), (1, 3)), (((1, 3),), ((1, 0),)))
        # "1,200" is 1.2, and "1.2" is none.
        self.assertEqual(rounds(((ONE, OTHER),), (12, 2)), (((12, 2), (12, -1)), ()))
        # "-7" is none for the second reader.
        self.assertEqual(rounds(((ONE, ONE), (ONE, WHOLE)), (-7, 0)), (((-7, 0),), ()))
        self.assertEqual(rounds(((WHOLE, WHOLE),), (5, -1)), (((5, -1),), ()))
        # "120,000" is 120, and stays so.
        self.assertEqual(rounds(((ONE, OTHER),), (12, 4)), (((12, 4),), ((12, 1),)))

    def test_a_round_ends_behind_the_last_pair(self):
        # The first pair makes a thousandth of it, and the second one a thousand times as much.
        self.assertEqual(rounds(((ONE, OTHER), (OTHER, ONE)), (1234, 0)), ((), ((1234, 0),)))
        self.assertEqual(passed(((ONE, OTHER), (OTHER, ONE)), (1234, 0)), [(1234, -3), (1234, 0)])

    def test_it_is_a_pair_of_tuples(self):
        for number in ((5, -1), (1, 3), (1234, 0)):
            found = rounds(((ONE, OTHER),), number)
            self.assertEqual([type(found)] + [type(part) for part in found], [tuple] * 3)

    def test_pairs_of_one_reader_each(self):
        for told in all_parts()[::3]:
            reader = Reader(*told)
            for number in NUMBERS:
                stays = written(reader, number) is not None
                self.assertEqual(rounds(((reader, reader),) * 2, number),
                                 ((), (number,)) if stays else ((number,), ()), (told, number))
                self.assertEqual(passed(((reader, reader),) * 2, number), [number] * 2 if stays else [])

    def test_equal_calls(self):
        for number in NUMBERS:
            self.assertEqual(rounds(((ONE, OTHER),), number), rounds(((ONE, OTHER),), number))


class WrongValuesTest(unittest.TestCase):
    def assert_bad_chain(self, index, chain):
        for function in (passed, rounds):
            for number in ((1, 0), (0, 1), None, [1, 0]):
                with self.assertRaises(BadChain, msg=chain) as caught:
                    function(chain, number)
                self.assertEqual(caught.exception.index, index, chain)

    def test_no_chain(self):
        for value in (None, 5, True, "12", {}, {0: (ONE, OTHER)}, (), [], [(ONE, OTHER)], ((ONE, OTHER),) * 7, ONE,
                      (5,) * 7):
            self.assert_bad_chain(None, value)

    def test_no_pair(self):
        pair = (ONE, OTHER)
        for value in [value for value in VALUES if not isinstance(value, Reader)] + [
                [ONE, OTHER], (ONE,), (ONE, OTHER, ONE), (ONE, 5), (None, OTHER), (ONE, "x"), ONE, (pair, pair), pair[:0]]:
            self.assert_bad_chain(0, (value,))
            self.assert_bad_chain(1, (pair, value, 5))
            self.assert_bad_chain(5, (pair,) * 5 + (value,))
        # A pair alone is a chain of two things that are no pairs.
        self.assert_bad_chain(0, pair)

    def test_no_number(self):
        for number in [value for value in VALUES if value != (1, 0)] + [
                (10, 0), (0, 1), (10 ** 30 + 1, 0), (1, 31), (1, -31), [1, 0], (True, 0), (1, False), (1,), (1, 0, 0)]:
            for function in (passed, rounds):
                for chain in (((ONE, OTHER),), ((WHOLE, WHOLE),)):
                    with self.assertRaises(BadNumber, msg=number):
                        function(chain, number)


class InterfaceTest(unittest.TestCase):
    def test_where_it_is_defined(self):
        for function in (passed, rounds):
            self.assertEqual(function.__module__, "readersapart.chains")

    def test_by_keyword(self):
        self.assertEqual(passed(chain=((ONE, ONE),), number=(1, 0)), [(1, 0)])
        self.assertEqual(rounds(chain=((ONE, ONE),), number=(1, 0)), ((), ((1, 0),)))

    def test_examples(self):
        self.assertEqual(
            [passed(((ONE, OTHER),), (1234, -3)), passed(((ONE, OTHER), (OTHER, ONE)), (1234, -3)),
             passed(((ONE, OTHER),), (5, -1))],
            [[(1234, 0)], [(1234, 0), (1234, -3)], []])
        self.assertEqual(
            [rounds(((ONE, OTHER),), (1234, -3)), rounds(((ONE, OTHER),), (5, -1)), rounds(((ONE, ONE),), (7, 0))],
            [((), ((1234, -3), (1234, 0))), (((5, -1),), ()), ((), ((7, 0),))])


if __name__ == "__main__":
    unittest.main()
