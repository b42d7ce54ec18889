import unittest

from sortcuts import errors

BASES = {"TableError": ValueError, "FindError": LookupError, "LimitError": ArithmeticError}

# Each error with its base class and its attribute.
ERRORS = (
    ("InvalidTable", "TableError", "index"),
    ("InvalidColumns", "TableError", "columns"),
    ("InvalidOrder", "TableError", "index"),
    ("InvalidProgram", "TableError", "index"),
    ("InvalidNumber", "TableError", "number"),
    ("InvalidPlaces", "TableError", "index"),
    ("InvalidText", "TableError", "text"),
    ("InvalidLimit", "TableError", "value"),
    ("InvalidRecord", "TableError", "record"),
    ("InvalidValue", "TableError", "value"),
    ("InvalidEdit", "TableError", "index"),
    ("InvalidCommand", "TableError", "line"),
    ("MissingColumn", "FindError", "column"),
    ("NoPlace", "FindError", "place"),
    ("NothingToUndo", "FindError", None),
    ("TooManyRecords", "LimitError", "count"),
    ("TooManyEdits", "LimitError", "count"),
    ("LastRecord", "LimitError", None),
)

WITH_ATTRIBUTE = [(getattr(errors, name), word) for name, base, word in ERRORS if word is not None]
WITHOUT = [getattr(errors, name) for name, base, word in ERRORS if word is None]


class ErrorsTest(unittest.TestCase):
    def test_base_classes(self):
        for name, base in BASES.items():
            with self.subTest(name):
                self.assertEqual(getattr(errors, name).__bases__, (base,))

    def test_each_error_has_only_the_given_base_class(self):
        for name, base, word in ERRORS:
            with self.subTest(name):
                self.assertEqual(getattr(errors, name).__bases__, (getattr(errors, base),))

    def test_attribute_by_position_and_by_keyword(self):
        for error, word in WITH_ATTRIBUTE:
            for value in (0, 3, None, True, "up:00", (0, 9, 1), [1]):
                with self.subTest(error=error.__name__, value=value):
                    self.assertIs(getattr(error(value), word), value)
                    self.assertIs(getattr(error(**{word: value}), word), value)

    def test_the_attribute_is_asked_for(self):
        for error, word in WITH_ATTRIBUTE:
            with self.subTest(error.__name__), self.assertRaises(TypeError):
                error()

    def test_errors_without_attribute_are_created_with_nothing(self):
        for error in WITHOUT:
            with self.subTest(error.__name__), self.assertRaises(error):
                raise error()

    def test_objects_do_not_share_their_attribute(self):
        for error, word in WITH_ATTRIBUTE:
            with self.subTest(error.__name__):
                first, second = error(1), error(2)
                self.assertEqual([getattr(first, word), getattr(second, word)], [1, 2])


if __name__ == "__main__":
    unittest.main()
