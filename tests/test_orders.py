import functools
import random
import unittest

from sortcuts.errors import FindError, InvalidOrder, InvalidTable, MissingColumn, TableError
from sortcuts.orders import is_order, places_by, sorted_by, turned
from tests.checks import NEVER_VALID, ErrorCase
from tests.samples import DOWN, FOUR_KEYS, UP, WRONG_ORDERS, every_order

TABLE = ((3, 1), (1, 2), (3, 0), (2, 2))

ORDERS = (
    UP,
    DOWN,
    ((0, "up"), ("place", "up")),
    ((3, "down"), ("place", "down")),
    ((1, "up"), ("place", "down")),
    ((1, "up"), (0, "down"), ("place", "up")),
    ((2, "down"), (0, "down"), (1, "up"), ("place", "down")),
    FOUR_KEYS,
)


def comes_before(table, order, place, other):
    """The words of the document: the first element that parts two records decides."""
    for part, direction in order:
        one, two = (place, other) if part == "place" else (table[place][part], table[other][part])
        if one != two:
            return one < two if direction == "up" else one > two
    raise AssertionError("two places are always parted")


def expected_places(table, order):
    compare = functools.cmp_to_key(lambda one, two: -1 if comes_before(table, order, one, two) else 1)
    return tuple(sorted(range(len(table)), key=compare))


class IsOrderTest(unittest.TestCase):
    def test_examples(self):
        self.assertIs(is_order(((1, "up"), ("place", "down"))), True)
        self.assertIs(is_order(((1, "up"),)), False)
        self.assertIs(is_order(((1, "up"), (1, "down"), ("place", "up"))), False)

    def test_orders(self):
        for order in ORDERS:
            with self.subTest(order):
                self.assertIs(is_order(order), True)

    def test_every_order(self):
        self.assertEqual({is_order(order) for order in every_order(4)}, {True})

    def test_other_values(self):
        for value, index in WRONG_ORDERS:
            with self.subTest(value):
                self.assertIs(is_order(value), False)

    def test_any_value(self):
        for value in NEVER_VALID:
            with self.subTest(repr(value)):
                self.assertIs(is_order(value), False)
                self.assertIs(is_order((value,)), False)
                self.assertIs(is_order((value, ("place", "up"))), False)
                self.assertIs(is_order(((value, "up"), ("place", "up"))), False)

    def test_by_name(self):
        self.assertIs(is_order(value=UP), True)
        self.assertIs(is_order(value=()), False)

    def test_true_and_false_after_an_equal_call(self):
        for _ in range(2):
            for column in (0, 1):
                self.assertIs(is_order(((column, "up"), ("place", "up"))), True)
                self.assertIs(is_order(((bool(column), "up"), ("place", "up"))), False)


class TurnedTest(ErrorCase):
    def test_example(self):
        self.assertEqual(turned(((1, "up"), ("place", "down"))), ((1, "down"), ("place", "up")))

    def test_no_key_and_four_keys(self):
        self.assertEqual([turned(UP), turned(DOWN)], [DOWN, UP])
        self.assertEqual(
            turned(FOUR_KEYS), ((3, "down"), (0, "up"), (2, "down"), (1, "up"), ("place", "down")))

    def test_every_element_is_turned_and_nothing_else_changes(self):
        for order in every_order(4):
            found = turned(order)
            self.assertEqual([part for part, _ in found], [part for part, _ in order])
            self.assertEqual([{one, two} for (_, one), (_, two) in zip(found, order)],
                             [{"up", "down"}] * len(order))
            self.assertEqual(turned(found), order)

    def test_the_result_is_a_tuple_of_tuples(self):
        self.assertEqual([type(part) for part in turned(FOUR_KEYS)], [tuple] * 5)
        self.assertIs(type(turned(FOUR_KEYS)), tuple)

    def test_by_name(self):
        self.assertEqual(turned(order=UP), DOWN)

    def test_wrong_orders(self):
        for value, index in WRONG_ORDERS:
            with self.subTest(value):
                self.assert_error(InvalidOrder, "index", index, turned, value)
                self.assert_error(InvalidOrder, "index", index, turned, order=value)

    def test_true_and_false_after_an_equal_call(self):
        for _ in range(2):
            for column in (0, 1):
                self.assertEqual(turned(((column, "up"), ("place", "up"))), ((column, "down"), ("place", "down")))
                self.assert_error(InvalidOrder, "index", 0, turned, ((bool(column), "up"), ("place", "up")))

    def test_base_class(self):
        with self.assertRaises(TableError):
            turned(())


class PlacesByTest(ErrorCase):
    def test_examples(self):
        self.assertEqual(places_by(TABLE, ((0, "down"), ("place", "up"))), (0, 2, 3, 1))
        self.assertEqual(sorted_by(TABLE, ((0, "down"), ("place", "down"))), ((3, 0), (3, 1), (2, 2), (1, 2)))
        self.assert_error(MissingColumn, "column", 2, places_by, TABLE, ((2, "up"), ("place", "up")))

    def test_no_key(self):
        self.assertEqual([places_by(TABLE, UP), places_by(TABLE, DOWN)], [(0, 1, 2, 3), (3, 2, 1, 0)])

    def test_later_keys_decide_between_equal_values(self):
        self.assertEqual(places_by(TABLE, ((0, "down"), (1, "up"), ("place", "up"))), (2, 0, 3, 1))
        self.assertEqual(places_by(TABLE, ((1, "down"), (0, "up"), ("place", "up"))), (1, 3, 0, 2))

    def test_equal_records_are_parted_by_their_places(self):
        table = ((5, 5),) * 4
        self.assertEqual(places_by(table, ((0, "down"), (1, "up"), ("place", "up"))), (0, 1, 2, 3))
        self.assertEqual(places_by(table, ((0, "up"), ("place", "down"))), (3, 2, 1, 0))

    def test_one_record(self):
        for order in every_order(4):
            self.assertEqual(places_by(((4, 3, 2, 1),), order), (0,))
            self.assertEqual(sorted_by(((4, 3, 2, 1),), order), ((4, 3, 2, 1),))

    def test_thirty_records(self):
        table = tuple((place % 7, place) for place in range(30))
        order = ((0, "down"), ("place", "down"))
        expected = tuple(place for rest in range(6, -1, -1) for place in range(29, -1, -1) if place % 7 == rest)
        self.assertEqual(places_by(table, order), expected)
        self.assertEqual(sorted_by(table, order), tuple(table[place] for place in expected))

    def test_great_and_negative_values(self):
        big = 10 ** 40 - 1
        table = ((big,), (-big,), (0,), (big - 1,), (1 - big,))
        self.assertEqual(places_by(table, ((0, "up"), ("place", "up"))), (1, 4, 2, 3, 0))
        self.assertEqual(places_by(table, ((0, "down"), ("place", "up"))), (0, 3, 2, 4, 1))

    def test_a_fifth_column_is_not_sorted_by(self):
        table = ((0, 0, 0, 1, 2), (0, 0, 0, 1, 1), (0, 0, 0, 0, 3))
        self.assertEqual(places_by(table, FOUR_KEYS), (2, 0, 1))
        self.assert_error(InvalidOrder, "index", 0, places_by, table, ((4, "up"), ("place", "up")))

    def test_every_order_as_the_document_defines_it(self):
        source = random.Random(5)
        for columns in range(1, 5):
            for order in every_order(columns):
                width = source.randint(columns, 5)
                table = tuple(tuple(source.randint(-1, 1) for _ in range(width))
                              for _ in range(source.randint(1, 12)))
                expected = expected_places(table, order)
                self.assertEqual(places_by(table, order), expected)
                self.assertEqual(sorted_by(table, order), tuple(table[place] for place in expected))

    def test_results_are_tuples(self):
        self.assertIs(type(places_by(TABLE, UP)), tuple)
        self.assertIs(type(sorted_by(TABLE, UP)), tuple)
        self.assertEqual({type(place) for place in places_by(TABLE, DOWN)}, {int})
        self.assertEqual({type(record) for record in sorted_by(TABLE, DOWN)}, {tuple})

    def test_by_name(self):
        self.assertEqual(places_by(order=DOWN, table=((1,), (2,))), (1, 0))
        self.assertEqual(sorted_by(order=DOWN, table=((1,), (2,))), ((2,), (1,)))

    def test_equal_calls(self):
        order = ((0, "down"), ("place", "down"))
        for function in (places_by, sorted_by):
            self.assertEqual(function(TABLE, order), function(TABLE, order))


class PlacesByErrorsTest(ErrorCase):
    def test_wrong_tables(self):
        for function in (places_by, sorted_by):
            for value, index in (((), None), ([(1,)], None), (((1,),) * 31, None), (((3, 1), (1,)), 1),
                                 (((1,), (True,)), 1), (((),), 0), (((1, 2, 3, 4, 5, 6),), 0)):
                with self.subTest(function=function.__name__, value=value):
                    self.assert_error(InvalidTable, "index", index, function, value, UP)

    def test_wrong_orders(self):
        for function in (places_by, sorted_by):
            for value, index in WRONG_ORDERS:
                with self.subTest(function=function.__name__, value=value):
                    self.assert_error(InvalidOrder, "index", index, function, TABLE, value)

    def test_any_value(self):
        for function in (places_by, sorted_by):
            for value in NEVER_VALID:
                with self.subTest(function=function.__name__, value=repr(value)):
                    index = 0 if isinstance(value, tuple) and value else None
                    self.assert_error(InvalidTable, "index", index, function, value, UP)
                    self.assert_error(InvalidOrder, "index", index, function, TABLE, value)

    def test_missing_columns(self):
        for function in (places_by, sorted_by):
            for columns in range(1, 4):
                table = (tuple(range(columns)),) * 2
                for column in range(columns, 4):
                    order = ((column, "down"), (0, "up"), ("place", "up"))
                    self.assert_error(MissingColumn, "column", column, function, table, order)

    def test_the_least_missing_column(self):
        order = ((3, "up"), (1, "up"), (0, "up"), (2, "up"), ("place", "up"))
        for function in (places_by, sorted_by):
            self.assert_error(MissingColumn, "column", 1, function, ((7,),), order)
            self.assert_error(MissingColumn, "column", 2, function, ((7, 7),), order)
            self.assert_error(MissingColumn, "column", 3, function, ((7, 7, 7),), order)
            self.assertEqual(len(function(((7, 7, 7, 7),), order)), 1)

    def test_the_table_comes_first(self):
        for function in (places_by, sorted_by):
            self.assert_error(InvalidTable, "index", None, function, (), ())
            self.assert_error(InvalidTable, "index", 1, function, ((1,), ()), ((3, "up"), ("place", "up")))
            self.assert_error(InvalidTable, "index", 1, function, order=None, table=((1,), ()))

    def test_the_order_comes_before_its_missing_columns(self):
        for function in (places_by, sorted_by):
            self.assert_error(InvalidOrder, "index", 1, function, ((1,),), ((3, "up"), (0, "left"), ("place", "up")))
            self.assert_error(InvalidOrder, "index", 0, function, ((1,),), ((3, "up"),))

    def test_true_and_false_after_an_equal_call(self):
        table = ((0, 1), (1, 0))
        for function in (places_by, sorted_by):
            for column in (0, 1):
                order = ((column, "up"), ("place", "up"))
                self.assertEqual(len(function(table, order)), 2)
                self.assert_error(InvalidOrder, "index", 0, function, table, ((bool(column), "up"), ("place", "up")))
                self.assert_error(InvalidTable, "index", 1, function, ((0, 1), (True, 0)), order)
                self.assertEqual(len(function(table, order)), 2)

    def test_base_class(self):
        with self.assertRaises(FindError):
            places_by(((1,),), ((1, "up"), ("place", "up")))
        with self.assertRaises(LookupError):
            sorted_by(((1,),), ((1, "up"), ("place", "up")))

    def test_lists_that_are_passed_stay_as_they_are(self):
        table, order = [[2], [1]], [[0, "up"], ["place", "up"]]
        self.assert_error(InvalidTable, "index", None, places_by, table, order)
        self.assert_error(InvalidOrder, "index", None, sorted_by, ((2,), (1,)), order)
        self.assertEqual([table, order], [[[2], [1]], [[0, "up"], ["place", "up"]]])


if __name__ == "__main__":
    unittest.main()
