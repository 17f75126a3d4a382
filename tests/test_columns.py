import unittest
from itertools import combinations, product

from readersapart.columns import Column
from readersapart.errors import BadReaders, BadText, ReaderError
from readersapart.lots import safety, takers
from readersapart.readers import Reader, parts
from readersapart.reading import means
from tests.grammar import worth_of
from tests.trial import CHOSEN, VALUES, safety_by_trial, trials

ENGLISH = Reader(".", ",", 3, False, "none", False, False, False)
GERMAN = Reader(",", ".", 3, False, "none", False, False, False)

TEXTS = ["1", "1.0", "-1", "1,0", "1e1", "00", "", "1.000", "1,000", " 1 ", "1000", "x", "0"]


class Model:
    """What the document says of a column, over the worths of short texts for each reader."""

    def __init__(self, many, texts=()):
        self.many = many
        self.texts = list(texts)

    def numbers(self, at):
        return [self.many[at].get(text) for text in self.texts]

    def left(self):
        return [at for at in range(len(self.many)) if None not in self.numbers(at)]


class Compared(unittest.TestCase):
    def assert_stands(self, column, model):
        self.assertEqual(len(column), len(model.texts))
        self.assertEqual(column.texts, tuple(model.texts))
        self.assertEqual(column.left(), model.left())
        for at in range(len(model.many)):
            worths = [None if number is None else worth_of(number) for number in column.numbers(at)]
            self.assertEqual(worths, model.numbers(at))


class ColumnTest(Compared):
    def test_steps_of_many_kinds(self):
        found = trials(CHOSEN, "01", 5)
        for places in list(combinations(range(5), 2)) + [(0, 1, 2, 3), (4, 3, 2, 1), (0, 0, 1, 1), (2,)]:
            model = Model([found[CHOSEN[at]] for at in places])
            column = Column([Reader(*CHOSEN[at]) for at in places])
            # Three texts more, two less, and so on, with all texts in their turn.
            for step in range(60):
                if step % 5 < 3:
                    text = TEXTS[step * 7 % len(TEXTS)]
                    self.assertEqual(column.add(text), safety_by_trial(model.many, text))
                    model.texts.append(text)
                else:
                    self.assertIs(column.undo(), True)
                    model.texts.pop()
                self.assert_stands(column, model)

    def test_as_takers_and_safety_tell(self):
        readers = [Reader(*told) for told in CHOSEN[:4]]
        for texts in product(TEXTS, repeat=2):
            column = Column(tuple(readers))
            self.assertEqual([column.add(text) for text in texts], [safety(readers, text) for text in texts])
            self.assertEqual(column.left(), takers(readers, texts))
            for at in column.left():
                self.assertEqual(column.numbers(at), [means(readers[at], text) for text in texts])

    def test_without_texts(self):
        column = Column([ENGLISH, GERMAN, ENGLISH])
        self.assertEqual([len(column), column.texts, column.left(), column.numbers(2), column.undo(), column.left()],
                         [0, (), [0, 1, 2], [], False, [0, 1, 2]])

    def test_undo(self):
        column = Column([ENGLISH, GERMAN])
        column.add("x")
        column.add("1.5")
        self.assertEqual([column.left(), column.undo(), column.left(), column.undo(), column.left(), column.undo()],
                         [[], True, [], True, [0, 1], False])
        self.assertIs(column.undo(), False)
        self.assertEqual([column.add("1,5"), column.left(), column.texts], ["partly", [1], ("1,5",)])

    def test_refused_texts_stand_too(self):
        column = Column([ENGLISH, GERMAN])
        self.assertEqual([column.add(text) for text in ("", "x", "1" * 100)], ["refused", "refused", "safe"])
        self.assertEqual([len(column), column.left(), column.numbers(0)[:2], column.texts[:2]],
                         [3, [], [None, None], ("", "x")])

    def test_a_text_twice(self):
        column = Column([ENGLISH])
        self.assertEqual([column.add("7"), column.add("7"), column.texts, column.numbers(0)],
                         ["safe", "safe", ("7", "7"), [(7, 0), (7, 0)]])

    def test_many_texts(self):
        column = Column([ENGLISH, GERMAN])
        for n in range(500):
            column.add(str(n))
        self.assertEqual([len(column), column.left(), column.numbers(1)[120]], [500, [0, 1], (12, 1)])
        self.assertEqual([column.undo() for _ in range(501)], [True] * 500 + [False])

    def test_readers(self):
        readers = [ENGLISH, GERMAN]
        column = Column(readers)
        self.assertIs(type(column.readers), tuple)
        self.assertEqual(column.readers, (ENGLISH, GERMAN))
        readers[0] = readers[1]
        readers.append(5)
        self.assertEqual(column.readers, (ENGLISH, GERMAN))
        self.assertEqual(column.add("1.5"), "partly")
        self.assertEqual(column.left(), [0])

    def test_what_is_told_is_new(self):
        column = Column([ENGLISH, GERMAN])
        column.add("1,000")
        column.left().append(7)
        column.numbers(0).append(None)
        self.assertEqual([column.left(), column.numbers(0), column.numbers(1)], [[0, 1], [(1, 3)], [(1, 0)]])
        for _ in range(2):
            self.assertEqual([column.texts, column.readers, column.left()], [("1,000",), (ENGLISH, GERMAN), [0, 1]])

    def test_properties_are_not_assigned(self):
        column = Column([ENGLISH])
        with self.assertRaises(AttributeError):
            column.texts = ()
        with self.assertRaises(AttributeError):
            column.readers = ()


class CopyTest(Compared):
    def test_an_independent_column(self):
        found = trials(CHOSEN[:3], "01", 5)
        many = [found[told] for told in CHOSEN[:3]]
        column = Column([Reader(*told) for told in CHOSEN[:3]])
        for text in ("1", "1.000", "x"):
            column.add(text)
        copy = column.copy()
        self.assertIs(type(copy), Column)
        self.assert_stands(copy, Model(many, ["1", "1.000", "x"]))
        copy.undo()
        copy.add("00")
        column.undo()
        column.undo()
        self.assert_stands(copy, Model(many, ["1", "1.000", "00"]))
        self.assert_stands(column, Model(many, ["1"]))
        column.add("-1")
        self.assert_stands(copy, Model(many, ["1", "1.000", "00"]))
        self.assertEqual([parts(reader) for reader in copy.readers], CHOSEN[:3])

    def test_a_copy_of_a_copy(self):
        column = Column([ENGLISH])
        first = column.copy()
        first.add("1")
        second = first.copy()
        second.add("2")
        self.assertEqual([column.texts, first.texts, second.texts], [(), ("1",), ("1", "2")])


class WrongValuesTest(unittest.TestCase):
    def test_no_readers(self):
        for value, index in (([], None), ((), None), ([ENGLISH] * 5, None), (ENGLISH, None), (None, None),
                             ("1", None), ({}, None), ([5], 0), ((ENGLISH, True), 1), ([ENGLISH, GERMAN, []], 2)):
            with self.assertRaises(BadReaders) as caught:
                Column(value)
            self.assertEqual(caught.exception.index, index)

    def test_no_text(self):
        column = Column([ENGLISH, GERMAN])
        column.add("1")
        for value in [value for value in VALUES if not isinstance(value, str)] + ["1" * 101, " " * 101, ENGLISH]:
            with self.assertRaises(BadText) as caught:
                column.add(value)
            self.assertIsInstance(caught.exception, ReaderError)
            self.assertEqual([len(column), column.texts, column.left()], [1, ("1",), [0, 1]])


class InterfaceTest(unittest.TestCase):
    def test_where_it_is_defined(self):
        self.assertEqual(Column.__module__, "readersapart.columns")
        for name in ("__init__", "add", "left", "numbers", "undo", "copy", "__len__", "readers", "texts"):
            self.assertIn(name, vars(Column))

    def test_by_keyword(self):
        column = Column(readers=[ENGLISH])
        self.assertEqual([column.add(text="5"), column.numbers(at=0)], ["safe", [(5, 0)]])

    def test_example(self):
        column = Column([ENGLISH, GERMAN])
        self.assertEqual(
            [column.add("1,000"), column.left(), column.numbers(1), column.add("0.5"), column.left(),
             column.numbers(1), column.undo(), len(column), column.texts],
            ["apart", [0, 1], [(1, 0)], "partly", [0], [(1, 0), None], True, 1, ("1,000",)])


if __name__ == "__main__":
    unittest.main()
