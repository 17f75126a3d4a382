import unittest

from readersapart import errors

FIELDS = {
    "BadPart": ("part",),
    "BadReader": (),
    "BadReaders": ("index",),
    "BadText": (),
    "BadTexts": ("index",),
    "NotTaken": ("at",),
    "BadNumber": (),
    "BadNumbers": ("index",),
    "BadLength": (),
    "BadIndex": (),
    "BadChain": ("index",),
    "InvalidText": ("word",),
}


class ErrorsTest(unittest.TestCase):
    def test_base(self):
        self.assertEqual(errors.ReaderError.__bases__, (ValueError,))
        self.assertEqual(errors.ReaderError.__module__, "readersapart.errors")

    def test_each_stands_directly_under_the_base(self):
        for name in FIELDS:
            kind = getattr(errors, name)
            self.assertEqual(kind.__bases__, (errors.ReaderError,), name)
            self.assertEqual(kind.__module__, "readersapart.errors", name)

    def test_fields(self):
        for name, fields in FIELDS.items():
            for told in (0, 7, None, "comma"):
                error = getattr(errors, name)(*[told for _ in fields])
                self.assertEqual([getattr(error, field) for field in fields], [told for _ in fields], name)
                self.assertIsInstance(str(error), str)

    def test_fields_by_keyword(self):
        for name, fields in FIELDS.items():
            error = getattr(errors, name)(**{field: 3 for field in fields})
            self.assertEqual([getattr(error, field) for field in fields], [3 for _ in fields], name)

    def test_caught_as_the_base_and_as_a_value_error(self):
        for name, fields in FIELDS.items():
            for base in (errors.ReaderError, ValueError):
                with self.assertRaises(base):
                    raise getattr(errors, name)(*[1 for _ in fields])


if __name__ == "__main__":
    unittest.main()
