import unittest
from itertools import product

from readersapart.errors import BadReader, InvalidText, ReaderError
from readersapart.readers import Reader, parts
from readersapart.texts import read, write
from tests.grammar import all_parts
from tests.trial import VALUES

WORDS = [
    "dot", "comma", "none", "apostrophe", "blank", "3", "2", "ahead", "behind", "must", "zeros", "blanks",
    "exponent", "x", "03", "Dot", ".",
]
POINTS = {"dot": ".", "comma": ",", "none": ""}
COMMAS = {"dot": ".", "comma": ",", "apostrophe": "'", "blank": " ", "none": ""}
FLAGS = ["must", "zeros", "blanks", "exponent"]


def words_of(told):
    """The words for the parts of a reader, by the document's words."""
    point, comma, rest, must, sign, zeros, blanks, exponent = told
    first = [word for word in POINTS if POINTS[word] == point] + [word for word in COMMAS if COMMAS[word] == comma]
    flags = [word for word, value in zip(FLAGS, (must, zeros, blanks, exponent)) if value]
    return first + [str(rest), sign] + flags


BEGINNINGS = {tuple(words_of(told)[:many]) for told in all_parts() for many in range(9)}
WHOLE = {tuple(words_of(told)): told for told in all_parts()}


def wrong_word(words):
    """The number of the first word that cannot stand there, told by a trial of all beginnings of all readers' words."""
    for many in range(1, len(words) + 1):
        if tuple(words[:many]) not in BEGINNINGS:
            return many
    return None if tuple(words) in WHOLE else len(words) + 1


class WriteTest(unittest.TestCase):
    def test_all_readers(self):
        for told in all_parts():
            self.assertEqual(write(Reader(*told)), " ".join(words_of(told)), told)

    def test_all_are_unlike(self):
        self.assertEqual(len({write(Reader(*told)) for told in all_parts()}), 1104)

    def test_some(self):
        for told, text in (
            ((",", "'", 2, True, "behind", True, True, True), "comma apostrophe 2 behind must zeros blanks exponent"),
            (("", "", 3, False, "none", False, False, False), "none none 3 none"),
            ((".", " ", 3, False, "ahead", False, False, True), "dot blank 3 ahead exponent"),
            (("", ".", 3, True, "ahead", False, True, False), "none dot 3 ahead must blanks"),
        ):
            self.assertEqual(write(Reader(*told)), text)
            self.assertEqual(parts(read(text)), told)

    def test_no_reader(self):
        for value in VALUES + ["dot comma 3 ahead", (".", ",", 3, False, "ahead", False, False, False)]:
            with self.assertRaises(BadReader):
                write(value)


class ReadTest(unittest.TestCase):
    def assert_read(self, text, words):
        wrong = wrong_word(words)
        if wrong is None:
            self.assertEqual(parts(read(text)), WHOLE[tuple(words)], text)
        else:
            with self.assertRaises(InvalidText, msg=text) as caught:
                read(text)
            self.assertEqual(caught.exception.word, wrong, text)
            self.assertIsInstance(caught.exception, ReaderError)

    def test_what_is_written(self):
        for told in all_parts():
            reader = Reader(*told)
            self.assertEqual(read(write(reader)), reader, told)
            self.assertIs(type(read(write(reader))), Reader)

    def test_all_first_words(self):
        for many in range(4):
            for words in product(WORDS, repeat=many):
                self.assert_read(" ".join(words), words)

    def test_all_last_words(self):
        for start in (("dot", "comma", "3", "none"), ("none", "blank", "2", "behind"), ("comma", "none", "3", "ahead")):
            for many in range(5):
                for words in product(FLAGS + ["dot", "x"], repeat=many):
                    self.assert_read(" ".join(start + words), start + words)

    def test_all_fourth_words(self):
        for words in product(["dot", "none"], ["comma", "blank", "none"], ["3", "2"], WORDS, FLAGS[1:3]):
            self.assert_read(" ".join(words[:4]), words[:4])
            self.assert_read(" ".join(words), words)

    def test_too_many_words(self):
        words = words_of((".", ",", 3, True, "none", True, True, True))
        for word in WORDS:
            self.assert_read(" ".join(words + [word]), words + [word])
            self.assert_read(" ".join(words + [word, "must"]), words + [word, "must"])

    def test_spaces(self):
        for told in all_parts()[::17]:
            words = words_of(told)
            for text in ("  ".join(words), " " + " ".join(words), " ".join(words) + "   ", "   " + "    ".join(words) + " "):
                self.assertEqual(parts(read(text)), told, text)
        for text, word in (("   ", 1), (" dot  ", 2), ("  dot   dot  3 none", 2), ("dot comma 3  none  x ", 5)):
            self.assert_read(text, text.split())
            with self.assertRaises(InvalidText) as caught:
                read(text)
            self.assertEqual(caught.exception.word, word)

    def test_other_blanks_are_no_spaces(self):
        for text, word in (("dot\tcomma 3 none", 1), ("dot comma 3 none\n", 4), ("\ndot comma 3 none", 1),
                           ("dot comma\u00a03 none", 2), ("dot comma 3 none \t", 5), ("dot,comma,3,none", 1)):
            with self.assertRaises(InvalidText) as caught:
                read(text)
            self.assertEqual(caught.exception.word, word, text)

    def test_single_faults(self):
        for text, word in (
            ("", 1), ("dot", 2), ("dot comma", 3), ("dot comma 3", 4), ("apostrophe", 1), ("blank comma 3 none", 1),
            ("comma comma 3 none", 2), ("dot comma 4 none", 3), ("dot comma 3 both", 4), ("dot comma 3 none none", 5),
            ("dot comma 3 none zeros must", 6), ("dot comma 3 none must must", 6), ("none blank 3 none blanks", 5),
            ("none blank 3 none zeros blanks", 6), ("none blank 3 none exponent blanks", 6), ("dot 3 none", 2),
            ("dot comma none 3", 3), ("dot comma 3 must", 4), ("DOT comma 3 none", 1), (". comma 3 none", 1),
            ("dot comma 3 none exponent zeros x", 6), ("x y z", 1), ("dot dot", 2), ("dot comma 3 none must x", 6),
        ):
            with self.assertRaises(InvalidText, msg=text) as caught:
                read(text)
            self.assertEqual(caught.exception.word, word, text)
            self.assertEqual(wrong_word(text.split()), word, text)

    def test_point_and_comma_may_both_be_none(self):
        self.assertEqual(parts(read("none none 2 behind")), ("", "", 2, False, "behind", False, False, False))

    def test_equal_calls(self):
        text = "dot comma 3 ahead zeros"
        self.assertEqual(read(text), read(text))
        self.assertEqual(write(read(text)), text)


class InterfaceTest(unittest.TestCase):
    def test_where_it_is_defined(self):
        for function in (write, read):
            self.assertEqual(function.__module__, "readersapart.texts")

    def test_by_keyword(self):
        self.assertEqual(write(reader=read(text="dot comma 3 ahead")), "dot comma 3 ahead")

    def test_examples(self):
        self.assertEqual(
            [write(Reader(".", ",", 3, False, "ahead", False, False, False)),
             write(Reader("", " ", 2, True, "none", True, False, True)),
             read("comma  dot 3 behind blanks") == Reader(",", ".", 3, False, "behind", False, True, False)],
            ["dot comma 3 ahead", "none blank 2 none must zeros exponent", True])
        with self.assertRaises(InvalidText) as caught:
            read("dot dot 3 none")
        self.assertEqual(caught.exception.word, 2)


if __name__ == "__main__":
    unittest.main()
