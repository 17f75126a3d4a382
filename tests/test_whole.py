"""What the document says of all functions: their names, the errors that come first, and that nothing is changed."""

import inspect
import unittest
from importlib import import_module

from readersapart import errors
from readersapart.columns import Column
from readersapart.readers import Reader, parts
from tests.trial import VALUES

ONE = Reader(".", ",", 3, False, "ahead", False, False, False)
OTHER = Reader(",", ".", 3, False, "ahead", False, False, True)

# The arguments of all functions, by their modules.
FUNCTIONS = {
    "readers": {"parts": "reader"},
    "reading": {"takes": "reader text", "first_stop": "reader text", "means": "reader text"},
    "pairs": {"alone": "one other", "two_numbers": "one other", "same": "one other", "count": "reader length",
              "count_both": "one other length"},
    "lots": {"safety": "readers text", "parting": "readers", "takers": "readers texts", "ways": "readers texts"},
    "writing": {"written": "reader number", "shortest": "readers number", "misread": "writer reader number"},
    "offs": {"off": "writer reader"},
    "told": {"fitting": "texts numbers", "common_parts": "texts numbers"},
    "columns": {"Column": "readers"},
    "texts": {"write": "reader"},
    "ranks": {"text_at": "reader length index", "place_of": "reader text", "parting_many": "one other length",
              "parting_at": "one other length index"},
    "splits": {"splits": "readers", "fewest_texts": "readers", "texts_for": "readers", "tell_apart": "readers texts"},
    "edits": {"edits": "reader text", "nearest": "reader text"},
    "chains": {"passed": "chain number", "rounds": "chain number"},
}

GOOD = {
    "reader": ONE, "one": ONE, "other": OTHER, "writer": OTHER, "readers": [ONE, OTHER], "text": "1,000",
    "texts": ["1,000", "1.5"], "length": 5, "index": 7, "number": (1234, 0), "numbers": [(1, 3), None],
    "chain": ((ONE, OTHER), (OTHER, ONE)),
}

# For each kind of argument that may be any value: the error, and values for which it is raised, with its index.
BAD = {
    "reader": (errors.BadReader, [(value, None) for value in VALUES + [[ONE], parts(ONE)]]),
    "readers": (errors.BadReaders, [
        (None, None), (ONE, None), ([], None), ((), None), ([ONE] * 5, None), ({0: ONE}, None), ("1", None), (True, None),
        ([None], 0), ((ONE, 5), 1), ([ONE, ONE, parts(ONE), None], 2), ((ONE, ONE, ONE, True), 3)]),
    "text": (errors.BadText, [(value, None) for value in (None, 5, True, ["1"], ("1",), {}, "1" * 101, ONE)]),
    "texts": (errors.BadTexts, [
        (None, None), ("1", None), ([], None), ((), None), (["1"] * 21, None), ({"1": "1"}, None), ([5], 0),
        (("1", None), 1), (["1", "2", "3" * 101, 5], 2)]),
    "length": (errors.BadLength, [(value, None) for value in (-1, 31, True, False, None, "5", [5], (5,), {}, 10 ** 40)]),
    "index": (errors.BadIndex, [(value, None) for value in (-1, True, False, None, "5", [5], (5,), {}, 10 ** 40)]),
    "number": (errors.BadNumber, [(value, None) for value in (
        None, 5, "5", [1, 0], (10, 0), (0, 1), (1, 31), (1, -31), (10 ** 30 + 1, 0), (True, 0), (1, False), (1,), {})]),
    "numbers": (errors.BadNumbers, [
        (None, None), ([], None), ([None], None), ([None] * 3, None), ("12", None), ({}, None), ([5, None], 0),
        ((None, (10, 0)), 1), ([(1, 0), [1, 0]], 1)]),
    "chain": (errors.BadChain, [
        (None, None), ([], None), ((), None), ([(ONE, ONE)], None), (((ONE, ONE),) * 7, None), ((5,), 0),
        (((ONE, ONE), (ONE, 5)), 1), (((ONE, ONE), [ONE, ONE], None), 1), ((ONE, ONE), 0)]),
}
KIND = {"one": "reader", "other": "reader", "writer": "reader"}


def all_functions():
    for module, told in FUNCTIONS.items():
        for name, arguments in told.items():
            yield getattr(import_module("readersapart." + module), name), arguments.split()


def snapshot(value):
    """A value with its readers told by their parts, so that two states of it can be compared."""
    if isinstance(value, Reader):
        return parts(value)
    if isinstance(value, Column):
        return (value.readers, value.texts)
    if isinstance(value, (list, tuple)):
        return [type(value).__name__] + [snapshot(part) for part in value]
    return value


class InterfaceTest(unittest.TestCase):
    def test_names_and_arguments(self):
        for function, arguments in all_functions():
            self.assertEqual(list(inspect.signature(function).parameters), arguments, function)

    def test_read(self):
        self.assertEqual(list(inspect.signature(import_module("readersapart.texts").read).parameters), ["text"])

    def test_each_is_defined_where_it_is_listed(self):
        for module, told in FUNCTIONS.items():
            for name in told:
                self.assertEqual(getattr(import_module("readersapart." + module), name).__module__,
                                 "readersapart." + module)


class WrongValuesTest(unittest.TestCase):
    def assert_first(self, error, index, function, values):
        with self.assertRaises(errors.ReaderError, msg=(function, values)) as caught:
            function(*values)
        self.assertIs(type(caught.exception), error, (function, values))
        self.assertEqual(getattr(caught.exception, "index", None), index, (function, values))

    def test_each_wrong_value(self):
        for function, arguments in all_functions():
            for place, argument in enumerate(arguments):
                error, told = BAD[KIND.get(argument, argument)]
                for value, index in told:
                    values = [GOOD[name] for name in arguments]
                    values[place] = value
                    self.assert_first(error, index, function, values)

    def test_the_first_of_several_wrong_values(self):
        for function, arguments in all_functions():
            for place, argument in enumerate(arguments):
                error, told = BAD[KIND.get(argument, argument)]
                for number, (value, index) in enumerate(told):
                    values = [GOOD[name] for name in arguments[:place]] + [value]
                    for name in arguments[place + 1:]:
                        wrong = BAD[KIND.get(name, name)][1]
                        values.append(wrong[number % len(wrong)][0])
                    self.assert_first(error, index, function, values)

    def test_a_column_refuses_alike(self):
        column = Column([ONE])
        for value, _ in BAD["text"][1]:
            self.assert_first(errors.BadText, None, column.add, [value])
        self.assertEqual(len(column), 0)


class NothingIsChangedTest(unittest.TestCase):
    def test_arguments_and_equal_calls(self):
        for function, arguments in all_functions():
            values = [list(GOOD[name]) if isinstance(GOOD[name], list) else GOOD[name] for name in arguments]
            before = snapshot(values)
            first = snapshot(function(*values))
            self.assertEqual(snapshot(values), before, function)
            self.assertEqual(snapshot(function(*values)), first, function)
            self.assertEqual(snapshot(function(**dict(zip(arguments, values)))), first, function)

    def test_what_is_told_is_new(self):
        for function, arguments in all_functions():
            values = [GOOD[name] for name in arguments]
            first = function(*values)
            if isinstance(first, list):
                told = list(first)
                first.append("more")
                self.assertEqual(function(*values), told, function)
                self.assertIsNot(function(*values), function(*values), function)

    def test_lists_and_tuples_are_alike(self):
        for function, arguments in all_functions():
            for kind in (list, tuple):
                values = [kind(GOOD[name]) if name in ("readers", "texts", "numbers") else GOOD[name]
                          for name in arguments]
                self.assertEqual(snapshot(function(*values)), snapshot(function(*[GOOD[name] for name in arguments])))

    def test_a_call_that_raises_changes_nothing(self):
        readers, texts, numbers = [ONE, 5], ["1", None], [(1, 0), (10, 0)]
        for function, arguments in all_functions():
            if "readers" in arguments or "texts" in arguments:
                values = [dict(GOOD, readers=readers, texts=texts, numbers=numbers)[name] for name in arguments]
                with self.assertRaises(errors.ReaderError):
                    function(*values)
        self.assertEqual((readers, texts, numbers), ([ONE, 5], ["1", None], [(1, 0), (10, 0)]))


if __name__ == "__main__":
    unittest.main()
