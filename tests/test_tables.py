import unittest

from sortcuts.errors import InvalidTable, TableError
from sortcuts.tables import count_columns, is_table
from tests.checks import NEVER_VALID, ErrorCase, Odd

BIG = 10 ** 40 - 1

TABLES = (
    ((7,),),
    ((3, 1), (1, 2)),
    ((3, 1), (1, 2), (3, 0), (2, 2)),
    ((0, 0), (0, 0)),
    ((BIG, -BIG),),
    ((1, 2, 3, 4, 5),),
    ((1,),) * 30,
    ((1, 2, 3, 4, 5),) * 30,
    tuple((place, -place) for place in range(30)),
)

# Values that are not tables, each with the index of the error.
WRONG = (
    ((), None),
    (((1,),) * 31, None),
    (((True,),) * 31, None),
    (("a",) * 31, None),
    ([(3, 1), (1, 2)], None),
    ([], None),
    ("12", None),
    ("", None),
    (None, None),
    (1, None),
    (True, None),
    ({0: (1,)}, None),
    ((1, 2), 0),
    (((),), 0),
    (((1, 2, 3, 4, 5, 6),), 0),
    (((1, 2, 3, 4, 5, 6), (1,)), 0),
    (((), ()), 0),
    (([1, 2], (3, 4)), 0),
    (((1, 2), [3, 4]), 1),
    (((3, 1), (1,)), 1),
    (((3,), (1, 2)), 1),
    (((3, 1), ()), 1),
    (((3, 1), (1, 2), (1, 2, 3), (1,)), 2),
    (((1,), (2,), ("3",)), 2),
    (((1,), (2,), "3"), 2),
    (((1,), (2,), (None,)), 2),
    (((1,), (2,), ((3,),)), 2),
    (((1,), (b"1",)), 1),
    (((1,), b"1"), 1),
    (((1, 0), (1, False)), 1),
    (((1, 0), (True, 0)), 1),
    (((True,),), 0),
    (((False,), (1, 2)), 0),
    ((None, (1,)), 0),
    (((1,),) * 29 + ((1, 2),), 29),
    (((1, 2, 3, 4, 5), (1, 2, 3, 4, 5, 6)), 1),
    (((Odd(),),), 0),
)


class IsTableTest(unittest.TestCase):
    def test_examples(self):
        self.assertIs(is_table(((3, 1), (1, 2))), True)
        self.assertIs(is_table(((3, 1), (1,))), False)
        self.assertIs(is_table(()), False)
        self.assertIs(is_table(((True,),)), False)

    def test_tables(self):
        for table in TABLES:
            with self.subTest(table):
                self.assertIs(is_table(table), True)

    def test_other_values(self):
        for value, index in WRONG:
            with self.subTest(value):
                self.assertIs(is_table(value), False)

    def test_any_value(self):
        for value in NEVER_VALID:
            with self.subTest(repr(value)):
                self.assertIs(is_table(value), False)
                self.assertIs(is_table((value,)), False)
                self.assertIs(is_table(((value,),)), False)
                self.assertIs(is_table(((1, 2), (3, value))), False)

    def test_by_name(self):
        self.assertIs(is_table(value=((1,),)), True)
        self.assertIs(is_table(value=None), False)

    def test_true_and_false_after_an_equal_call(self):
        for _ in range(2):
            self.assertIs(is_table(((1, 0),)), True)
            self.assertIs(is_table(((True, 0),)), False)
            self.assertIs(is_table(((1, False),)), False)


class CountColumnsTest(ErrorCase):
    def test_examples(self):
        self.assertEqual([count_columns(((3, 1), (1, 2))), count_columns(((7,),))], [2, 1])
        self.assert_error(InvalidTable, "index", 1, count_columns, ((3, 1), (1,)))

    def test_each_number_of_columns(self):
        for columns in range(1, 6):
            for records in (1, 2, 30):
                with self.subTest(columns=columns, records=records):
                    self.assertEqual(count_columns((tuple(range(columns)),) * records), columns)

    def test_by_name(self):
        self.assertEqual(count_columns(table=((1, 2, 3),)), 3)

    def test_wrong_tables(self):
        for value, index in WRONG:
            with self.subTest(value):
                self.assert_error(InvalidTable, "index", index, count_columns, value)
                self.assert_error(InvalidTable, "index", index, count_columns, table=value)

    def test_any_value(self):
        for value in NEVER_VALID:
            with self.subTest(repr(value)):
                index = 0 if isinstance(value, tuple) and value else None
                self.assert_error(InvalidTable, "index", index, count_columns, value)
                self.assert_error(InvalidTable, "index", 1, count_columns, ((1,), value))
                self.assert_error(InvalidTable, "index", 1, count_columns, ((1,), (value,)))

    def test_true_and_false_after_an_equal_call(self):
        for _ in range(2):
            self.assertEqual(count_columns(((1, 0), (0, 1))), 2)
            self.assert_error(InvalidTable, "index", 0, count_columns, ((True, 0), (0, 1)))
            self.assert_error(InvalidTable, "index", 1, count_columns, ((1, 0), (False, 1)))

    def test_base_class(self):
        with self.assertRaises(TableError):
            count_columns(())
        with self.assertRaises(ValueError):
            count_columns(())

    def test_lists_that_are_passed_stay_as_they_are(self):
        records = [[2, 1], [1, 2]]
        self.assert_error(InvalidTable, "index", None, count_columns, records)
        self.assert_error(InvalidTable, "index", 0, count_columns, tuple(records))
        self.assertEqual(records, [[2, 1], [1, 2]])


if __name__ == "__main__":
    unittest.main()
