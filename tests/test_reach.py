import itertools
import random
import unittest

from sortcuts.errors import InvalidPlaces, InvalidTable, TableError
from sortcuts.orders import is_order, places_by
from sortcuts.programs import is_program
from sortcuts.reach import extreme_places, order_for, way_to
from sortcuts.running import run_places
from tests.checks import NEVER_VALID, ErrorCase
from tests.reference import (
    every_sequence, expected_left, expected_order, expected_places, expected_ways, orders_of, random_program)
from tests.samples import WRONG_PLACES, WRONG_TABLES
from tests.table_samples import SMALL, THIRTY

THREE = ((1,), (2,), (3,))


class ReachCase(unittest.TestCase):
    def assert_columns(self, table, columns):
        """Only columns of the table, and none beyond 3."""
        for column in columns:
            self.assertLess(column, min(4, len(table[0])))

    def assert_order(self, table, places, order):
        self.assertTrue(is_order(order))
        self.assert_columns(table, [column for column, direction in order[:-1]])
        self.assertEqual(tuple(place for place in places_by(table, order) if place in places), places)
        self.assertEqual(expected_order(table, places, order), places)

    def assert_way(self, table, places, program):
        self.assertTrue(is_program(program))
        self.assertNotIn("repeat", [command[0] for command in program])
        self.assert_columns(table, [command[1] for command in program if command[0] in ("up", "down")])
        self.assertEqual(run_places(table, program), places)
        self.assertEqual(expected_places(table, program), places)


class ExtremePlacesTest(ReachCase):
    def test_examples(self):
        self.assertEqual(extreme_places(THREE), (0, 2))
        self.assertEqual(extreme_places(((1,), (1,), (1,), (2,))), (0, 2, 3))

    def test_one_two_and_equal_records(self):
        self.assertEqual(extreme_places(((5,),)), (0,))
        self.assertEqual(extreme_places(((5, 4, 3, 2, 1),)), (0,))
        self.assertEqual(extreme_places(((5,), (5,))), (0, 1))
        self.assertEqual(extreme_places(((5, 5),) * 30), (0, 29))

    def test_a_fifth_column_plays_no_part(self):
        self.assertEqual(extreme_places(((0, 0, 0, 0, 1), (0, 0, 0, 0, 9), (0, 0, 0, 0, 1))), (0, 2))
        self.assertEqual(extreme_places(((0, 0, 0, 1, 1), (0, 0, 0, 9, 1), (0, 0, 0, 1, 1))), (0, 1, 2))

    def test_a_second_key(self):
        # The record at place 2 is the last one only among those with the greatest value in column 0.
        table = ((1, 0), (2, 0), (2, 1), (2, 0), (1, 5), (0, 5))
        self.assertEqual(extreme_places(table), tuple(
            place for place in range(6) if any(expected_order(table, range(6), order)[-1] == place
                                               for order in orders_of(table))))
        self.assertIn(2, extreme_places(table))

    def test_small_tables_against_all_orders(self):
        for table in SMALL:
            last = {expected_order(table, range(len(table)), order)[-1] for order in orders_of(table)}
            self.assertEqual(extreme_places(table), tuple(sorted(last)), table)

    def test_thirty_records_against_all_orders(self):
        for table in THIRTY:
            last = {expected_order(table, range(30), order)[-1] for order in orders_of(table)}
            self.assertEqual(extreme_places(table), tuple(sorted(last)), table)

    def test_kinds_of_values(self):
        found = extreme_places(THREE)
        self.assertEqual([type(found), *[type(place) for place in found]], [tuple, int, int])


class OrderForTest(ReachCase):
    def test_examples(self):
        table = ((1, 5), (2, 4), (3, 6))
        self.assertEqual(places_by(table, order_for(table, (1, 0, 2))), (1, 0, 2))
        self.assertIsNone(order_for(THREE, (0, 2, 1)))

    def test_only_these_places_among_themselves(self):
        self.assert_order(THREE, (0, 2), order_for(THREE, (0, 2)))
        self.assert_order(THREE, (2, 0), order_for(THREE, (2, 0)))
        self.assert_order(((1,), (9,), (2,), (0,)), (3, 0, 2), order_for(((1,), (9,), (2,), (0,)), (3, 0, 2)))

    def test_a_column_that_agrees_only_behind_another_one(self):
        table = ((0, 1), (0, 0), (1, 1), (1, 0))
        self.assert_order(table, (1, 0, 3, 2), order_for(table, (1, 0, 3, 2)))
        self.assertIsNone(order_for(table, (1, 0, 2, 3)))

    def test_equal_records_stand_in_the_sequence_of_their_places_or_in_its_opposite(self):
        table = ((4, 4),) * 4
        for places in every_sequence(table):
            order = order_for(table, places)
            if places in (tuple(sorted(places)), tuple(sorted(places, reverse=True))):
                self.assert_order(table, places, order)
            else:
                self.assertIsNone(order)

    def test_the_places_of_all_groups_have_one_direction(self):
        table = ((0,), (0,), (1,), (1,))
        self.assert_order(table, (1, 0, 3, 2), order_for(table, (1, 0, 3, 2)))
        self.assertIsNone(order_for(table, (0, 1, 3, 2)))

    def test_a_fifth_column_plays_no_part(self):
        table = ((0, 0, 0, 0, 1), (0, 0, 0, 0, 0), (0, 0, 0, 0, 2))
        self.assertIsNone(order_for(table, (1, 0, 2)))
        self.assert_order(table, (2, 1, 0), order_for(table, (2, 1, 0)))

    def test_small_tables_against_all_orders(self):
        for table in SMALL:
            orders = orders_of(table)
            found = {expected_order(table, chosen, order) for count in range(2, len(table) + 1)
                     for chosen in itertools.combinations(range(len(table)), count) for order in orders}
            for places in every_sequence(table):
                order = order_for(table, places)
                if places in found:
                    self.assert_order(table, places, order)
                else:
                    self.assertIsNone(order, (table, places))

    def test_thirty_records(self):
        source = random.Random(62)
        for table in THIRTY:
            for order in source.sample(orders_of(table), 6):
                places = expected_order(table, range(30), order)
                self.assert_order(table, places, order_for(table, places))
                some = tuple(place for place in places if source.random() < 0.5)
                if len(some) >= 2:
                    self.assert_order(table, some, order_for(table, some))


class WayToTest(ReachCase):
    def test_examples(self):
        self.assertEqual(run_places(THREE, way_to(THREE, (2, 1))), (2, 1))
        self.assertIsNone(way_to(THREE, (0, 2)))

    def test_all_records(self):
        self.assert_way(THREE, (0, 1, 2), way_to(THREE, (0, 1, 2)))
        self.assert_way(THREE, (2, 1, 0), way_to(THREE, (2, 1, 0)))
        self.assertIsNone(way_to(THREE, (1, 0, 2)))
        self.assert_way(((5,), (5,)), (1, 0), way_to(((5,), (5,)), (1, 0)))

    def test_a_sequence_or_a_set_that_cannot_be(self):
        # These can be left, but not in this sequence; those can be sorted so, but not be left alone.
        self.assertIsNone(way_to(((1,), (2,), (3,), (4,)), (0, 2, 1)))
        self.assertIsNotNone(way_to(((1,), (2,), (3,), (4,)), (2, 1, 0)))
        self.assertIsNone(way_to(((1,), (2,), (3,), (4,)), (0, 1, 3)))
        self.assertIsNotNone(order_for(((1,), (2,), (3,), (4,)), (0, 1, 3)))

    def test_a_fifth_column_plays_no_part(self):
        table = ((0, 0, 0, 0, 1), (0, 0, 0, 0, 9), (0, 0, 0, 0, 2))
        self.assertIsNone(way_to(table, (0, 2)))
        table = ((0, 0, 0, 1, 0), (0, 0, 0, 9, 0), (0, 0, 0, 2, 0))
        self.assert_way(table, (0, 2), way_to(table, (0, 2)))

    def test_small_tables_against_all_that_cutting_off_last_records_can_leave(self):
        for table in SMALL:
            ways = expected_ways(table)
            for places in every_sequence(table):
                program = way_to(table, places)
                if places in ways:
                    self.assert_way(table, places, program)
                else:
                    self.assertIsNone(program, (table, places))

    def test_that_reference_holds_what_programs_leave(self):
        source = random.Random(63)
        for table in SMALL:
            left, ways = expected_left(table), expected_ways(table)
            for _ in range(5):
                program = random_program(source, min(4, len(table[0])), (2, 3, 4))
                places = expected_places(table, program)
                self.assertIn(frozenset(places), left)
                self.assertIn(places, ways)

    def test_thirty_records(self):
        source = random.Random(64)
        for table in THIRTY:
            for _ in range(8):
                columns = min(4, len(table[0]))
                program = sum((random_program(source, columns, range(2, 30)) for _ in range(4)), ())
                places = expected_places(table, program)
                self.assert_way(table, places, way_to(table, places))

    def test_thirty_records_down_to_two(self):
        for table in (tuple((place,) for place in range(30)), ((7, 7, 7),) * 30):
            for place in range(29):
                self.assert_way(table, (place, place + 1), way_to(table, (place, place + 1)))
                self.assert_way(table, (place + 1, place), way_to(table, (place + 1, place)))
                if place + 2 < 30:
                    self.assertIsNone(way_to(table, (place, place + 2)))

    def test_many_different_orders_are_needed(self):
        source = random.Random(65)
        for _ in range(5):
            table = tuple(tuple(source.randint(0, 9) for _ in range(4)) for _ in range(30))
            kept = list(range(30))
            while len(kept) > 2:
                order = source.choice(orders_of(table))
                kept.remove(expected_order(table, kept, order)[-1])
            self.assert_way(table, tuple(kept), way_to(table, tuple(kept)))

    def test_thirty_records_that_cannot_be_cut_off(self):
        # Four records at the corners of a square keep all records inside of it.
        table = ((0, 0), (9, 9)) + tuple((place % 7 + 1, place % 5 + 1) for place in range(26)) + ((0, 9), (9, 0))
        inside = (0, 1, 28, 29)
        self.assertIsNone(way_to(table, inside))
        self.assertIsNone(way_to(table, inside + tuple(range(2, 27))))

    def test_equal_calls(self):
        for table in THIRTY:
            self.assertEqual(way_to(table, (1, 0)), way_to(table, (1, 0)))
            self.assertEqual(order_for(table, (1, 0)), order_for(table, (1, 0)))


class ReachErrorsTest(ErrorCase):
    functions = (order_for, way_to)

    def test_example(self):
        self.assert_error(InvalidPlaces, "index", 1, way_to, THREE, (0, 3))

    def test_wrong_tables(self):
        for value, index in WRONG_TABLES:
            with self.subTest(repr(value)):
                self.assert_error(InvalidTable, "index", index, extreme_places, value)
                self.assert_error(InvalidTable, "index", index, extreme_places, table=value)
                for function, places in itertools.product(self.functions, ((0, 1), (0, 0), None, [])):
                    self.assert_error(InvalidTable, "index", index, function, value, places)
                    self.assert_error(InvalidTable, "index", index, function, places=places, table=value)

    def test_any_table(self):
        for value in NEVER_VALID:
            index = 0 if isinstance(value, tuple) and value else None
            with self.subTest(repr(value)):
                self.assert_error(InvalidTable, "index", index, extreme_places, value)
                for function in self.functions:
                    self.assert_error(InvalidTable, "index", index, function, value, value)

    def test_wrong_places(self):
        for function in self.functions:
            for value, index in WRONG_PLACES:
                with self.subTest(function=function.__name__, value=repr(value)):
                    self.assert_error(InvalidPlaces, "index", index, function, THREE, value)
                    self.assert_error(InvalidPlaces, "index", index, function, places=value, table=THREE)

    def test_a_table_of_one_record_has_too_few_places(self):
        for function in self.functions:
            self.assert_error(InvalidPlaces, "index", None, function, ((1,),), (0,))
            self.assert_error(InvalidPlaces, "index", 1, function, ((1,),), (0, 0))
            self.assert_error(InvalidPlaces, "index", 1, function, ((1,),), (0, 1))

    def test_thirty_places(self):
        for function in self.functions:
            table = tuple((place,) for place in range(30))
            self.assertIsNotNone(function(table, tuple(range(30))))
            self.assert_error(InvalidPlaces, "index", 29, function, table, tuple(range(29)) + (30,))
            self.assert_error(InvalidPlaces, "index", 30, function, table, tuple(range(31)))

    def test_true_and_false_after_an_equal_call(self):
        for function in self.functions:
            for _ in range(2):
                self.assertIsNotNone(function(((1,), (0,)), (1, 0)))
                self.assert_error(InvalidPlaces, "index", 0, function, ((1,), (0,)), (True, 0))
                self.assert_error(InvalidPlaces, "index", 1, function, ((1,), (0,)), (1, False))
                self.assert_error(InvalidTable, "index", 0, function, ((True,), (0,)), (1, 0))

    def test_base_class(self):
        for call in (lambda: way_to(THREE, ()), lambda: order_for(THREE, (0, 9)), lambda: extreme_places(())):
            with self.assertRaises(TableError):
                call()

    def test_by_name(self):
        self.assertEqual(extreme_places(table=THREE), (0, 2))
        for function in self.functions:
            self.assertEqual(function(places=(2, 1), table=THREE), function(THREE, (2, 1)))

    def test_lists_that_are_passed_stay_as_they_are(self):
        for function in self.functions:
            table, places = [(1,), (2,)], [0, 1]
            self.assert_error(InvalidTable, "index", None, function, table, places)
            self.assert_error(InvalidPlaces, "index", None, function, THREE, places)
            self.assertEqual([table, places], [[(1,), (2,)], [0, 1]])


if __name__ == "__main__":
    unittest.main()
