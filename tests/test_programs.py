import unittest

from sortcuts.errors import InvalidProgram, TableError
from sortcuts.normal import each_order, normal_form
from sortcuts.notation import format_program
from sortcuts.programs import count_commands, is_program
from sortcuts.running import each_table, run, run_places
from tests.checks import NEVER_VALID, ErrorCase
from tests.program_samples import FAR, PROGRAMS, REVERSE, WRONG_COMMANDS, WRONG_PROGRAMS, nest, repeat
from tests.reference import few_steps, random_programs, written_out

TABLE = ((3, 1, 0, 0), (1, 2, 0, 0), (3, 0, 0, 0), (2, 2, 0, 0))

# Every function with a program, as a function of the program alone; what is yielded is iterated over at once.
WITH_PROGRAM = {
    "count_commands": lambda program: count_commands(program),
    "count_commands by name": lambda program: count_commands(program=program),
    "run": lambda program: run(TABLE, program),
    "run by name": lambda program: run(program=program, table=TABLE),
    "run_places": lambda program: run_places(TABLE, program),
    "run_places by name": lambda program: run_places(program=program, table=TABLE),
    "each_table": lambda program: list(each_table(TABLE, program)),
    "each_table by name": lambda program: list(each_table(program=program, table=TABLE)),
    "format_program": lambda program: format_program(program),
    "format_program by name": lambda program: format_program(program=program),
    "normal_form": lambda program: normal_form(program),
    "normal_form by name": lambda program: normal_form(program=program),
    "each_order": lambda program: list(each_order(program)),
    "each_order by name": lambda program: list(each_order(program=program)),
}


def is_empty_tuple(value):
    return isinstance(value, tuple) and len(value) == 0


class IsProgramTest(unittest.TestCase):
    def test_examples(self):
        self.assertIs(is_program((("up", 0), ("first", 3))), True)
        self.assertIs(is_program((("first", 1),)), False)
        self.assertIs(is_program((("repeat", 2, (("reverse",),)),)), True)

    def test_programs(self):
        for program in PROGRAMS:
            with self.subTest(program):
                self.assertIs(is_program(program), True)

    def test_every_column_and_size(self):
        for word, least, most in (("up", 0, 3), ("down", 0, 3), ("first", 2, 29), ("last", 2, 29)):
            for number in range(-3, 35):
                with self.subTest(word=word, number=number):
                    self.assertIs(is_program(((word, number),)), least <= number <= most)

    def test_times(self):
        for times in (1, 2, 3, 10 ** 29, FAR - 1, FAR):
            self.assertIs(is_program((repeat(times, REVERSE),)), True)
            self.assertIs(is_program((repeat(times),)), True)
        for times in (-FAR, -1, 0, FAR + 1, 10 ** 31, 10 ** 40 - 1):
            self.assertIs(is_program((repeat(times, REVERSE),)), False)
            self.assertIs(is_program((repeat(times),)), False)

    def test_nested_programs(self):
        for inner in ((), (REVERSE,), (("first", 2), ("up", 3))):
            for programs in range(1, 8):
                with self.subTest(programs=programs, inner=inner):
                    self.assertIs(is_program(nest(programs, *inner)), programs <= 4)

    def test_lengths(self):
        for length in (0, 1, 399, 400, 401, 402, 1000):
            with self.subTest(length):
                self.assertIs(is_program((REVERSE,) * length), length <= 400)
                self.assertIs(is_program((repeat(1),) * length), length <= 400)
                self.assertIs(is_program((repeat(FAR, *(REVERSE,) * length),)), length <= 399)
                self.assertIs(is_program(nest(4, *(REVERSE,) * length)), length <= 397)

    def test_the_commands_of_all_repeats_count(self):
        halves = (repeat(9, *(REVERSE,) * 198), repeat(9, *(REVERSE,) * 199))
        self.assertIs(is_program(halves), True)
        self.assertIs(is_program(halves + (REVERSE,)), True)
        self.assertIs(is_program(halves + (REVERSE, REVERSE)), False)
        self.assertIs(is_program((REVERSE,) + halves + (repeat(1),)), False)

    def test_other_values(self):
        for value, index in WRONG_PROGRAMS:
            with self.subTest(repr(value)):
                self.assertIs(is_program(value), False)

    def test_any_value(self):
        for value in NEVER_VALID:
            with self.subTest(repr(value)):
                self.assertIs(is_program(value), is_empty_tuple(value))
                self.assertIs(is_program((value,)), False)
                self.assertIs(is_program((REVERSE, (value,))), False)
                for word in ("up", "down", "first", "last"):
                    self.assertIs(is_program(((word, value),)), False)
                self.assertIs(is_program((("repeat", value, ()),)), False)
                self.assertIs(is_program((("repeat", 2, value),)), is_empty_tuple(value))

    def test_by_name(self):
        self.assertIs(is_program(value=()), True)
        self.assertIs(is_program(value=[]), False)

    def test_true_and_false_after_an_equal_call(self):
        for _ in range(2):
            for column in (0, 1):
                self.assertIs(is_program((("up", column),)), True)
                self.assertIs(is_program((("up", bool(column)),)), False)
                self.assertIs(is_program((repeat(3, ("down", column)),)), True)
                self.assertIs(is_program((repeat(3, ("down", bool(column))),)), False)
            self.assertIs(is_program((repeat(1, REVERSE),)), True)
            self.assertIs(is_program((repeat(True, REVERSE),)), False)

    def test_long_values_that_hold_the_same_tuple_many_times(self):
        value = (REVERSE,) * 1000
        for _ in range(6):
            value = (("repeat", 2, value),) * 1000
        with few_steps():
            self.assertIs(is_program(value), False)
            self.assertIs(is_program((("repeat", 2, (REVERSE,) * 10 ** 6),)), False)
            self.assertIs(is_program(((repeat(2, *nest(3)),) * 10 ** 6)), False)
            self.assertIs(is_program((("up",) * 10 ** 6,)), False)

    def test_lists_that_are_passed_stay_as_they_are(self):
        value = [["up", 0], ["repeat", 2, [["reverse"]]]]
        self.assertIs(is_program(value), False)
        self.assertIs(is_program(tuple(value)), False)
        self.assertEqual(value, [["up", 0], ["repeat", 2, [["reverse"]]]])


class CountCommandsTest(unittest.TestCase):
    def test_example(self):
        self.assertEqual(count_commands((("up", 0), repeat(1000, ("down", 1), REVERSE))), 2001)

    def test_without_repeats(self):
        for length in (0, 1, 2, 400):
            self.assertEqual(count_commands((REVERSE,) * length), length)
        self.assertEqual(count_commands((("up", 0), ("down", 3), ("first", 2), ("last", 29), ("restore",))), 5)

    def test_repeats_are_not_counted_themselves(self):
        self.assertEqual(count_commands((repeat(1),)), 0)
        self.assertEqual(count_commands((repeat(FAR),) * 400), 0)
        self.assertEqual(count_commands((repeat(1, REVERSE),)), 1)
        self.assertEqual(count_commands((repeat(7, REVERSE, repeat(5), ("up", 1)),)), 14)
        self.assertEqual(count_commands((repeat(2, REVERSE, repeat(3, REVERSE, ("up", 1)), REVERSE), REVERSE)), 17)

    def test_far_repeats(self):
        with few_steps():
            self.assertEqual(count_commands((repeat(FAR, REVERSE),)), 10 ** 30)
            self.assertEqual(count_commands((repeat(FAR - 1, REVERSE, ("first", 2)),)), 2 * 10 ** 30 - 2)
            inner = repeat(FAR, repeat(FAR, REVERSE, ("up", 0)), REVERSE)
            self.assertEqual(count_commands((repeat(FAR, inner), REVERSE)), 2 * 10 ** 90 + 10 ** 60 + 1)
            self.assertEqual(count_commands((repeat(FAR, repeat(FAR, repeat(FAR))),)), 0)
            self.assertEqual(count_commands((repeat(FAR, repeat(FAR, repeat(FAR, *(REVERSE,) * 397))),)), 397 * 10 ** 90)

    def test_an_integer(self):
        for program in PROGRAMS:
            self.assertIs(type(count_commands(program)), int)

    def test_random_programs_written_out(self):
        for program in random_programs(1, 400):
            with self.subTest(program):
                self.assertEqual(count_commands(program), len(list(written_out(program))))

    def test_by_name_and_equal_calls(self):
        for program in PROGRAMS:
            self.assertEqual(count_commands(program=program), count_commands(program))


class WrongProgramTest(ErrorCase):
    def test_wrong_programs(self):
        for name, function in WITH_PROGRAM.items():
            for value, index in WRONG_PROGRAMS:
                with self.subTest(name, value=repr(value)):
                    self.assert_error(InvalidProgram, "index", index, function, value)

    def test_wrong_commands(self):
        for name, function in WITH_PROGRAM.items():
            for command in WRONG_COMMANDS:
                with self.subTest(name, command=repr(command)):
                    self.assert_error(InvalidProgram, "index", 0, function, (command,))
                    self.assert_error(InvalidProgram, "index", 1, function, (("up", 0), command, None))
                    self.assert_error(InvalidProgram, "index", 1, function, (REVERSE, repeat(2, REVERSE, command)))
                    self.assert_error(
                        InvalidProgram, "index", 2, function,
                        (REVERSE, repeat(2), repeat(2, repeat(3, ("up", 0), repeat(1, command))), REVERSE))

    def test_any_value(self):
        for name, function in WITH_PROGRAM.items():
            for value in NEVER_VALID:
                with self.subTest(name, value=repr(value)):
                    if not is_empty_tuple(value):
                        index = 0 if isinstance(value, tuple) else None
                        self.assert_error(InvalidProgram, "index", index, function, value)
                    self.assert_error(InvalidProgram, "index", 1, function, (REVERSE, value))

    def test_programs_raise_nothing(self):
        for name, function in WITH_PROGRAM.items():
            for program in PROGRAMS:
                with self.subTest(name, program=program):
                    function(program)

    def test_true_and_false_after_an_equal_call(self):
        for name, function in WITH_PROGRAM.items():
            for column in (0, 1):
                with self.subTest(name, column=column):
                    for program in ((("up", column),), (REVERSE, repeat(1, repeat(3, ("up", column))))):
                        self.assertEqual(function(program), function(program))
                    self.assert_error(InvalidProgram, "index", 0, function, (("up", bool(column)),))
                    self.assert_error(
                        InvalidProgram, "index", 1, function, (REVERSE, repeat(1, repeat(3, ("up", bool(column))))))
                    self.assert_error(
                        InvalidProgram, "index", 1, function, (REVERSE, repeat(True, repeat(3, ("up", column)))))

    def test_base_classes(self):
        for function in WITH_PROGRAM.values():
            with self.assertRaises(TableError):
                function(None)
            with self.assertRaises(ValueError):
                function((None,))

    def test_lists_that_are_passed_stay_as_they_are(self):
        for function in WITH_PROGRAM.values():
            commands, inner = [("up", 0), ("reverse",)], [("down", 0)]
            self.assert_error(InvalidProgram, "index", None, function, commands)
            self.assert_error(InvalidProgram, "index", 0, function, (("repeat", 2, inner),))
            self.assertEqual([commands, inner], [[("up", 0), ("reverse",)], [("down", 0)]])


if __name__ == "__main__":
    unittest.main()
