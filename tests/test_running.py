import random
import unittest

from sortcuts.errors import FindError, InvalidProgram, InvalidTable, MissingColumn, TableError
from sortcuts.orders import sorted_by
from sortcuts.running import each_table, run, run_places
from tests.checks import NEVER_VALID, ErrorCase
from tests.program_samples import PROGRAMS, REVERSE, WRONG_PROGRAMS, nest, repeat
from tests.reference import expected_places, expected_table, random_programs, random_table
from tests.samples import WRONG_TABLES

TABLE = ((3, 1), (1, 2), (3, 0), (2, 2))
THIRTY = tuple((place * 7 % 30, place % 4, place // 10, -place) for place in range(30))


def list_tables(table, program):
    return list(each_table(table, program))


class RunTest(unittest.TestCase):
    def test_examples(self):
        self.assertEqual(run(TABLE, (("up", 0),)), ((1, 2), (2, 2), (3, 1), (3, 0)))
        self.assertEqual(run(TABLE, (("up", 0), ("first", 3), ("up", 1))), ((3, 1), (1, 2), (2, 2)))
        self.assertEqual(run(TABLE, (("up", 0), ("first", 3), ("restore",))), ((3, 1), (1, 2), (2, 2)))
        self.assertEqual(run_places(TABLE, (("up", 0), REVERSE)), (2, 0, 3, 1))
        self.assertEqual(run_places(TABLE, (("down", 0),)), (0, 2, 3, 1))
        self.assertEqual(run_places(TABLE, (("last", 3), ("last", 29))), (1, 2, 3))

    def test_no_command(self):
        self.assertEqual([run(TABLE, ()), run_places(TABLE, ())], [TABLE, (0, 1, 2, 3)])

    def test_one_command(self):
        for command, places in (
                (("up", 0), (1, 3, 0, 2)), (("up", 1), (2, 0, 1, 3)), (("down", 0), (0, 2, 3, 1)),
                (("down", 1), (1, 3, 0, 2)), (("reverse",), (3, 2, 1, 0)), (("restore",), (0, 1, 2, 3)),
                (("first", 2), (0, 1)), (("first", 3), (0, 1, 2)), (("last", 2), (2, 3)), (("last", 3), (1, 2, 3))):
            with self.subTest(command):
                self.assertEqual(run_places(TABLE, (command,)), places)
                self.assertEqual(run(TABLE, (command,)), tuple(TABLE[place] for place in places))

    def test_equal_values_keep_their_sequence(self):
        self.assertEqual(run_places(TABLE, (("up", 1), ("up", 0))), (1, 3, 2, 0))
        self.assertEqual(run_places(TABLE, (REVERSE, ("up", 0))), (1, 3, 2, 0))
        self.assertEqual(run_places(TABLE, (("up", 0), ("up", 1), ("up", 0))), (1, 3, 2, 0))
        self.assertEqual(run_places(((5,),) * 4, (("up", 0), ("down", 0))), (0, 1, 2, 3))

    def test_places_are_those_of_the_table_from_which_the_program_started(self):
        self.assertEqual(run_places(TABLE, (("down", 0), ("first", 3), ("restore",))), (0, 2, 3))
        self.assertEqual(run_places(TABLE, (REVERSE, ("first", 3), ("restore",), ("first", 2))), (1, 2))
        self.assertEqual(run_places(TABLE, (("last", 2), ("restore",), REVERSE)), (3, 2))
        self.assertEqual(run(TABLE, (("down", 1), ("first", 2), ("restore",), ("down", 0))), ((2, 2), (1, 2)))

    def test_cuts_to_as_many_records_as_there_are_or_more(self):
        for size in range(4, 30):
            for word in ("first", "last"):
                self.assertEqual(run_places(TABLE, ((word, size),)), (0, 1, 2, 3))
                self.assertEqual(run_places(TABLE, (("down", 0), (word, size))), (0, 2, 3, 1))

    def test_one_and_two_records(self):
        for program in PROGRAMS:
            with self.subTest(program):
                self.assertEqual(run(((4, 3, 2, 1),), program), ((4, 3, 2, 1),))
                self.assertEqual(run_places(((4, 3, 2, 1, 0),), program), (0,))
                self.assertEqual(sorted(run_places(((4, 3, 2, 1), (4, 3, 2, 1)), program)), [0, 1])
        self.assertEqual(run_places(((2,), (1,)), (("up", 0), ("last", 2))), (1, 0))

    def test_thirty_records(self):
        for size in range(2, 30):
            self.assertEqual(run_places(THIRTY, (("first", size),)), tuple(range(size)))
            self.assertEqual(run_places(THIRTY, (("last", size),)), tuple(range(30 - size, 30)))
        self.assertEqual(run(THIRTY, (("up", 3), ("last", 29), ("restore",))), THIRTY[:29])
        self.assertEqual(run_places(THIRTY, (("down", 1), ("first", 4))), (3, 7, 11, 15))

    def test_a_fifth_column_is_kept(self):
        table = ((0, 0, 0, 2, 7), (0, 0, 0, 1, 8))
        self.assertEqual(run(table, (("up", 3),)), ((0, 0, 0, 1, 8), (0, 0, 0, 2, 7)))

    def test_great_and_negative_values(self):
        big = 10 ** 40 - 1
        table = ((big,), (-big,), (0,), (big - 1,), (1 - big,))
        self.assertEqual(run_places(table, (("up", 0),)), (1, 4, 2, 3, 0))
        self.assertEqual(run_places(table, (("down", 0), ("first", 2))), (0, 3))

    def test_four_hundred_commands(self):
        program = (("up", 0), REVERSE, ("down", 1), ("restore",)) * 100
        self.assertEqual(run_places(TABLE, program), (0, 1, 2, 3))
        self.assertEqual(run_places(TABLE, (REVERSE,) * 399), (3, 2, 1, 0))

    def test_random_programs_followed_command_by_command(self):
        source = random.Random(2)
        for program in random_programs(3, 600, sizes=(2, 3, 4, 5, 9, 28, 29)):
            table = random_table(source, 3, source.choice((1, 2, 3, 5, 9, 30)))
            with self.subTest(program):
                self.assertEqual(run_places(table, program), expected_places(table, program))
                self.assertEqual(run(table, program), expected_table(table, program))

    def test_results_are_tuples(self):
        for program in ((), (("up", 0), ("first", 2)), (repeat(2, REVERSE),)):
            self.assertIs(type(run(TABLE, program)), tuple)
            self.assertEqual({type(record) for record in run(TABLE, program)}, {tuple})
            self.assertIs(type(run_places(TABLE, program)), tuple)
            self.assertEqual({type(place) for place in run_places(TABLE, program)}, {int})

    def test_by_name_and_equal_calls(self):
        program = (("up", 0), ("first", 3), REVERSE)
        for function in (run, run_places, list_tables):
            self.assertEqual(function(program=program, table=TABLE), function(TABLE, program))
        self.assertEqual(list(each_table(program=program, table=TABLE)), list_tables(TABLE, program))


class EachTableTest(unittest.TestCase):
    def test_example(self):
        self.assertEqual(
            list_tables(TABLE, (("first", 3), ("up", 1))),
            [((3, 1), (1, 2), (3, 0)), ((3, 0), (3, 1), (1, 2))])

    def test_no_command(self):
        self.assertEqual(list_tables(TABLE, ()), [])

    def test_a_repeat_is_one_command(self):
        self.assertEqual(list_tables(TABLE, (repeat(3, REVERSE, ("first", 3)),)), [((2, 2), (3, 0), (1, 2))])
        self.assertEqual(list_tables(TABLE, (repeat(2, REVERSE, ("first", 3)),)), [((1, 2), (3, 0), (2, 2))])
        self.assertEqual(list_tables(TABLE, (repeat(5),)), [TABLE])
        self.assertEqual(len(list_tables(TABLE, nest(4, REVERSE) + (REVERSE,))), 2)

    def test_each_table_is_what_the_commands_so_far_leave(self):
        source = random.Random(4)
        for program in random_programs(5, 300, sizes=(2, 3, 4, 9, 29)):
            table = random_table(source, 3, source.choice((1, 2, 4, 30)))
            with self.subTest(program):
                expected = [expected_table(table, program[:length]) for length in range(1, len(program) + 1)]
                self.assertEqual(list_tables(table, program), expected)

    def test_places_are_those_of_the_table_from_which_the_program_started(self):
        self.assertEqual(
            list_tables(TABLE, (("down", 0), ("first", 3), ("restore",), ("last", 2), REVERSE)),
            [((3, 1), (3, 0), (2, 2), (1, 2)), ((3, 1), (3, 0), (2, 2)), ((3, 1), (3, 0), (2, 2)),
             ((3, 0), (2, 2)), ((2, 2), (3, 0))])

    def test_each_is_a_tuple(self):
        self.assertEqual([type(table) for table in each_table(TABLE, (REVERSE, ("first", 2)))], [tuple, tuple])


class RunErrorsTest(ErrorCase):
    functions = (run, run_places, list_tables)

    def test_examples(self):
        self.assert_error(InvalidProgram, "index", 1, run, TABLE, (("up", 0), ("sort", 1)))

    def test_wrong_tables(self):
        for function in self.functions:
            for value, index in WRONG_TABLES:
                for program in ((), (REVERSE,), (("up", 3),), None, (None,)):
                    with self.subTest(function=function.__name__, value=value, program=program):
                        self.assert_error(InvalidTable, "index", index, function, value, program)
                        self.assert_error(InvalidTable, "index", index, function, program=program, table=value)

    def test_any_table(self):
        for function in self.functions:
            for value in NEVER_VALID:
                with self.subTest(function=function.__name__, value=repr(value)):
                    index = 0 if isinstance(value, tuple) and value else None
                    self.assert_error(InvalidTable, "index", index, function, value, ())
                    self.assert_error(InvalidTable, "index", index, function, value, value)

    def test_a_wrong_program_comes_before_its_missing_columns(self):
        for function in self.functions:
            for value, index in WRONG_PROGRAMS:
                with self.subTest(function=function.__name__, value=repr(value)):
                    self.assert_error(InvalidProgram, "index", index, function, ((1,), (2,)), value)
            self.assert_error(InvalidProgram, "index", 1, function, ((1,),), (("up", 3), ("up", 4)))
            self.assert_error(InvalidProgram, "index", 1, function, ((1,),), (("up", 1), ("up", True)))

    def test_missing_columns(self):
        for function in self.functions:
            for columns in range(1, 4):
                table = (tuple(range(columns)),) * 2
                for column in range(4):
                    for program in ((("up", column),), (REVERSE, ("down", column), ("restore",)),
                                    (("down", 0), nest(4, ("up", column), ("up", 0))[0], ("first", 2))):
                        with self.subTest(function=function.__name__, columns=columns, program=program):
                            if column < columns:
                                function(table, program)
                            else:
                                self.assert_error(MissingColumn, "column", column, function, table, program)

    def test_the_least_missing_column(self):
        programs = (
            (("up", 3), ("down", 1), ("up", 0), ("down", 2)),
            (("down", 2), repeat(2, ("up", 3), repeat(2, ("up", 1)), ("up", 0))),
            (repeat(2, repeat(2, ("up", 3)), ("up", 2)), ("up", 1)),
            (repeat(2, ("up", 1), ("restore",)), ("up", 2), ("restore",), ("up", 3), ("restore",)),
        )
        for function in self.functions:
            for program in programs:
                with self.subTest(function=function.__name__, program=program):
                    self.assert_error(MissingColumn, "column", 1, function, ((7,),), program)
                    self.assert_error(MissingColumn, "column", 2, function, ((7, 7),), program)
                    self.assert_error(MissingColumn, "column", 3, function, ((7, 7, 7),), program)
                    function(((7, 7, 7, 7),), program)
                    function(((7, 7, 7, 7, 7),), program)

    def test_errors_are_raised_when_the_iteration_begins(self):
        for table, program, error in (
                ((), (), InvalidTable), (TABLE, None, InvalidProgram), (TABLE, (REVERSE, None), InvalidProgram),
                (TABLE, (REVERSE, REVERSE, ("up", 2)), MissingColumn), (((1,), ()), (("up", 3), None), InvalidTable)):
            with self.subTest(table=table, program=program):
                found = each_table(table, program)
                with self.assertRaises(error):
                    next(iter(found))

    def test_true_and_false_after_an_equal_call(self):
        program = (("up", 1), ("first", 2), repeat(2, REVERSE))
        for function in self.functions:
            for _ in range(2):
                self.assertEqual(len(function(((1, 0), (0, 1)), program)), 3 if function is list_tables else 2)
                self.assert_error(InvalidTable, "index", 0, function, ((True, 0), (0, 1)), program)
                self.assert_error(InvalidTable, "index", 1, function, ((1, 0), (0, True)), program)

    def test_base_classes(self):
        for function in self.functions:
            with self.assertRaises(FindError):
                function(((1,),), (("up", 1),))
            with self.assertRaises(LookupError):
                function(((1,),), (("up", 1),))
            with self.assertRaises(TableError):
                function((), ())

    def test_lists_that_are_passed_stay_as_they_are(self):
        for function in self.functions:
            table, program = [(2,), (1,)], [("up", 0)]
            self.assert_error(InvalidTable, "index", None, function, table, program)
            self.assert_error(InvalidProgram, "index", None, function, ((2,), (1,)), program)
            self.assertEqual([table, program], [[(2,), (1,)], [("up", 0)]])


class RunAndOrdersTest(unittest.TestCase):
    def test_sorts_lead_to_the_order_that_begins_with_the_last_key(self):
        source = random.Random(6)
        for _ in range(50):
            table = random_table(source, 3, 12)
            self.assertEqual(
                run(table, (("up", 2), ("down", 0), ("up", 1))),
                sorted_by(table, ((1, "up"), (0, "down"), (2, "up"), ("place", "up"))))
            self.assertEqual(
                run(table, (("up", 2), REVERSE, ("down", 0))),
                sorted_by(table, ((0, "down"), (2, "down"), ("place", "down"))))


if __name__ == "__main__":
    unittest.main()
