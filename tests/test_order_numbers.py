import unittest

from sortcuts.errors import InvalidColumns, InvalidNumber, InvalidOrder, MissingColumn
from sortcuts.orders import count_orders, number_of, order_at
from tests.checks import NEVER_VALID, ErrorCase
from tests.samples import DOWN, UP, WRONG_ORDERS, every_order

COUNTS = {1: 6, 2: 26, 3: 158, 4: 1266}

LAST = {
    1: ((0, "up"), ("place", "up")),
    2: ((1, "up"), (0, "up"), ("place", "up")),
    3: ((2, "up"), (1, "up"), (0, "up"), ("place", "up")),
    4: ((3, "up"), (2, "up"), (1, "up"), (0, "up"), ("place", "up")),
}

WRONG_COLUMNS = (-1, 0, 5, 6, 10 ** 39, -10 ** 39, "1", [2], (1,), *NEVER_VALID)


def listed(columns):
    """The list of point 6: by length, orders of the same length as Python compares them."""
    return sorted(every_order(columns), key=lambda order: (len(order), order))


class CountOrdersTest(ErrorCase):
    def test_examples(self):
        self.assertEqual([count_orders(1), count_orders(4)], [6, 1266])

    def test_each_number_of_columns(self):
        for columns, count in COUNTS.items():
            self.assertEqual(count_orders(columns), count)
            self.assertEqual(count_orders(columns=columns), len(listed(columns)))

    def test_wrong_columns(self):
        for value in WRONG_COLUMNS:
            with self.subTest(repr(value)):
                self.assert_error(InvalidColumns, "columns", value, count_orders, value)
                self.assert_error(InvalidColumns, "columns", value, count_orders, columns=value)

    def test_true_after_an_equal_call(self):
        for _ in range(2):
            self.assertEqual(count_orders(1), 6)
            self.assert_error(InvalidColumns, "columns", True, count_orders, True)
            self.assert_error(InvalidColumns, "columns", 0, count_orders, 0)
            self.assert_error(InvalidColumns, "columns", False, count_orders, False)


class OrderAtTest(ErrorCase):
    def test_example(self):
        self.assertEqual(order_at(1, 3), ((0, "down"), ("place", "up")))

    def test_one_column_in_full(self):
        self.assertEqual(
            [order_at(1, number) for number in range(6)],
            [DOWN, UP, ((0, "down"),) + DOWN, ((0, "down"),) + UP, ((0, "up"),) + DOWN, ((0, "up"),) + UP])

    def test_first_and_last(self):
        for columns, count in COUNTS.items():
            self.assertEqual(order_at(columns, 0), DOWN)
            self.assertEqual(order_at(columns, count - 1), LAST[columns])

    def test_every_number(self):
        for columns in COUNTS:
            orders = listed(columns)
            self.assertEqual([order_at(columns, number) for number in range(len(orders))], orders)

    def test_results_are_tuples_of_tuples(self):
        self.assertIs(type(order_at(4, 1000)), tuple)
        self.assertEqual({type(part) for part in order_at(4, 1000)}, {tuple})

    def test_by_name(self):
        self.assertEqual(order_at(number=3, columns=1), order_at(1, 3))

    def test_wrong_columns(self):
        for value in WRONG_COLUMNS:
            with self.subTest(repr(value)):
                self.assert_error(InvalidColumns, "columns", value, order_at, value, 0)

    def test_numbers_beyond_the_limits(self):
        for columns, count in COUNTS.items():
            for number in (-1, -2, -count, count, count + 1, 10 ** 39, -10 ** 39):
                with self.subTest(columns=columns, number=number):
                    self.assert_error(InvalidNumber, "number", number, order_at, columns, number)

    def test_wrong_numbers(self):
        for value in ("1", [2], (1,), *NEVER_VALID):
            with self.subTest(repr(value)):
                self.assert_error(InvalidNumber, "number", value, order_at, 2, value)
                self.assert_error(InvalidNumber, "number", value, order_at, columns=2, number=value)

    def test_the_columns_come_first(self):
        self.assert_error(InvalidColumns, "columns", 0, order_at, 0, -1)
        self.assert_error(InvalidColumns, "columns", True, order_at, True, None)
        self.assert_error(InvalidColumns, "columns", None, order_at, number="x", columns=None)

    def test_true_and_false_after_an_equal_call(self):
        for _ in range(2):
            self.assertEqual([order_at(1, 0), order_at(1, 1)], [DOWN, UP])
            self.assert_error(InvalidNumber, "number", False, order_at, 1, False)
            self.assert_error(InvalidNumber, "number", True, order_at, 1, True)
            self.assert_error(InvalidColumns, "columns", True, order_at, True, 1)


class NumberOfTest(ErrorCase):
    def test_example(self):
        self.assertEqual(number_of(2, ((1, "up"), ("place", "up"))), 9)

    def test_first_and_last(self):
        for columns, count in COUNTS.items():
            self.assertEqual(number_of(columns, DOWN), 0)
            self.assertEqual(number_of(columns, LAST[columns]), count - 1)

    def test_every_order(self):
        for columns in COUNTS:
            orders = listed(columns)
            self.assertEqual([number_of(columns, order) for order in orders], list(range(len(orders))))

    def test_the_number_depends_on_the_columns(self):
        order = ((0, "up"), ("place", "up"))
        self.assertEqual([number_of(columns, order) for columns in COUNTS], [5, 5, 5, 5])
        order = ((1, "up"), (0, "down"), ("place", "up"))
        self.assertEqual([number_of(columns, order) for columns in (2, 3, 4)],
                         [listed(columns).index(order) for columns in (2, 3, 4)])
        self.assertNotEqual(number_of(2, order), number_of(3, order))

    def test_by_name(self):
        self.assertEqual(number_of(order=((1, "up"), ("place", "up")), columns=2), 9)

    def test_wrong_columns(self):
        for value in WRONG_COLUMNS:
            with self.subTest(repr(value)):
                self.assert_error(InvalidColumns, "columns", value, number_of, value, UP)

    def test_wrong_orders(self):
        for value, index in WRONG_ORDERS:
            with self.subTest(value):
                self.assert_error(InvalidOrder, "index", index, number_of, 4, value)
                self.assert_error(InvalidOrder, "index", index, number_of, columns=1, order=value)

    def test_missing_columns(self):
        for columns in (1, 2, 3):
            for column in range(columns, 4):
                order = ((column, "up"), (0, "down"), ("place", "up"))
                self.assert_error(MissingColumn, "column", column, number_of, columns, order)

    def test_the_least_missing_column(self):
        order = ((3, "up"), (1, "up"), (0, "up"), (2, "up"), ("place", "up"))
        for columns in (1, 2, 3):
            self.assert_error(MissingColumn, "column", columns, number_of, columns, order)
        self.assert_error(MissingColumn, "column", 2, number_of, 1, ((3, "up"), (2, "up"), ("place", "up")))

    def test_the_first_wrong_parameter_counts(self):
        self.assert_error(InvalidColumns, "columns", 5, number_of, 5, ())
        self.assert_error(InvalidColumns, "columns", 0, number_of, order=((3, "up"), ("place", "up")), columns=0)
        self.assert_error(InvalidOrder, "index", 1, number_of, 1, ((3, "up"), (3, "up"), ("place", "up")))
        self.assert_error(InvalidOrder, "index", 0, number_of, 1, ((3, "up"),))

    def test_true_and_false_after_an_equal_call(self):
        order = ((1, "up"), ("place", "up"))
        for _ in range(2):
            self.assertEqual([number_of(2, order), number_of(1, UP)], [9, 1])
            self.assert_error(InvalidOrder, "index", 0, number_of, 2, ((True, "up"), ("place", "up")))
            self.assert_error(InvalidColumns, "columns", True, number_of, True, UP)


if __name__ == "__main__":
    unittest.main()
