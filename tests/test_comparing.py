import itertools
import random
import unittest

from sortcuts.comparing import difference, same
from sortcuts.errors import InvalidProgram, TableError
from sortcuts.running import run
from sortcuts.tables import is_table
from tests.checks import ErrorCase
from tests.program_samples import FAR, PROGRAMS, REVERSE, WRONG_PROGRAMS, repeat
from tests.reference import (
    expected_normal_form, expected_table, few_steps, random_programs, random_table, written_out)
from tests.samples import FOUR_KEYS, every_order

COMMANDS = (
    ("up", 0), ("down", 0), ("up", 1), ("down", 1), ("reverse",), ("restore",),
    ("first", 2), ("last", 2), ("first", 3), ("last", 3), ("first", 29), ("last", 28),
)


def sorts_to(order):
    """Commands after which this is the present order, whatever it was before."""
    ends = {"up": (("restore",),), "down": (("restore",), REVERSE)}[order[-1][1]]
    return ends + tuple((direction, column) for column, direction in reversed(order[:-1]))


def picks_to(*picks):
    """Commands that make these picks."""
    return tuple(command for order, size in picks for command in sorts_to(order) + (("first", size),))


def flip_one(order, at):
    part, direction = order[at]
    return order[:at] + ((part, {"up": "down", "down": "up"}[direction]),) + order[at + 1:]


def columns_in(program):
    for command in program:
        if command[0] in ("up", "down"):
            yield command[1]
        elif command[0] == "repeat":
            yield from columns_in(command[2])


class Compared(unittest.TestCase):
    def assert_told_apart(self, program, other):
        self.assertIs(same(program, other), False, (program, other))
        table = difference(program, other)
        self.assertTrue(is_table(table), (program, other, table))
        for column in [*columns_in(program), *columns_in(other)]:
            self.assertLess(column, len(table[0]))
        self.assertNotEqual(run(table, program), run(table, other), (program, other, table))
        return table

    def assert_same(self, program, other):
        self.assertIs(same(program, other), True, (program, other))
        self.assertIsNone(difference(program, other), (program, other))

    def assert_compared(self, program, other):
        if expected_normal_form(program) == expected_normal_form(other):
            self.assert_same(program, other)
        else:
            self.assert_told_apart(program, other)


class SameTest(Compared):
    def test_examples(self):
        self.assertIs(same((REVERSE, ("first", 3), REVERSE), (("last", 3),)), True)
        self.assertIs(same((("up", 0), REVERSE), (("down", 0),)), False)
        program, other = (("up", 0), REVERSE), (("down", 0),)
        table = difference(program, other)
        self.assertNotEqual(run(table, program), run(table, other))
        self.assertIsNone(difference(program, program))

    def test_programs_that_look_different(self):
        for program, other in (
                ((), (REVERSE, REVERSE)), ((), (repeat(FAR),)), ((), (("up", 0), ("restore",))),
                ((("up", 0), ("up", 1), ("up", 0)), (("up", 1), ("up", 0))),
                ((("first", 5), ("first", 3)), (("first", 3),)), ((("first", 3), ("up", 3), ("last", 3)), (("first", 3), ("up", 3))),
                ((("first", 3), ("last", 29)), (repeat(FAR, ("first", 3)),)),
                ((repeat(3, repeat(3, REVERSE)),), (REVERSE,))):
            with self.subTest(program=program, other=other):
                self.assert_same(program, other)
                self.assert_same(other, program)

    def test_a_program_and_itself(self):
        for program in PROGRAMS:
            self.assert_same(program, program)

    def test_random_programs_on_random_tables(self):
        source = random.Random(31)
        programs = random_programs(32, 120, columns=2, sizes=(2, 3, 4))
        tables = [random_table(source, 2, records) for records in (2, 3, 3, 4, 4, 4, 5, 5, 5, 5)]
        effects = [[expected_table(table, program) for table in tables] for program in programs]
        for (program, effect), (other, against) in itertools.combinations(zip(programs, effects), 2):
            if effect != against:
                self.assertIs(same(program, other), False)
            self.assert_compared(program, other)


class DifferenceTest(Compared):
    def test_all_pairs_of_small_programs(self):
        programs = [program for length in range(3) for program in itertools.product(COMMANDS, repeat=length)]
        for program, other in itertools.product(programs, programs):
            self.assert_compared(program, other)

    def test_the_table_is_told_apart_command_by_command(self):
        programs = random_programs(33, 150, columns=4, sizes=(2, 3, 4, 5, 28, 29))
        for program, other in itertools.combinations(programs, 2):
            table = difference(program, other)
            if table is not None:
                self.assertNotEqual(expected_table(table, program), expected_table(table, other))
            else:
                self.assertEqual(expected_normal_form(program), expected_normal_form(other))

    def test_every_two_last_orders_of_two_columns(self):
        for order, other in itertools.permutations(every_order(2), 2):
            self.assert_told_apart(sorts_to(order), sorts_to(other))
            self.assert_told_apart(sorts_to(order) + (("first", 2),), sorts_to(other) + (("first", 2),))

    def test_every_two_orders_of_a_pick_of_two_columns(self):
        for order, other in itertools.permutations(every_order(2), 2):
            for size in (2, 29):
                table = self.assert_told_apart(
                    picks_to((order, size)) + (("restore",),), picks_to((other, size)) + (("restore",),))
                self.assertLessEqual(len(table), 30)

    def test_one_element_of_a_last_order_with_four_keys(self):
        for order in (FOUR_KEYS, ((0, "up"), (1, "up"), (2, "up"), (3, "up"), ("place", "down"))):
            for at in range(5):
                self.assert_told_apart(sorts_to(order), sorts_to(flip_one(order, at)))
            # The last two keys exchanged, or one of them left out.
            self.assert_told_apart(sorts_to(order), sorts_to(order[:2] + (order[3], order[2]) + order[4:]))
            for at in range(4):
                self.assert_told_apart(sorts_to(order), sorts_to(order[:at] + order[at + 1:]))

    def test_one_element_of_the_order_of_a_pick_alone(self):
        before, behind = (((0, "up"), ("place", "down")), 9), ((("place", "up"),), 3)
        for at in range(5):
            for picks in ([], [before]), ([], [before, behind]), ([behind], []), ([before], [behind]), ([], []):
                first, last = picks
                first = [(order, 20 if size == 9 else 19) for order, size in first]
                one = picks_to(*first, (FOUR_KEYS, 12), *last) + (("restore",),)
                two = picks_to(*first, (flip_one(FOUR_KEYS, at), 12), *last) + (("restore",),)
                self.assert_told_apart(one, two)
                self.assert_told_apart(two, one)

    def test_one_pick_alone(self):
        # Each pick in turn left out or put in, among picks that alternate.
        orders = [order for order in every_order(2)][:10]
        picks = [(order, 29 - 2 * at) for at, order in enumerate(orders + orders[:3])]
        for at in range(len(picks)):
            fewer = picks[:at] + picks[at + 1:]
            for ends in ((), (("restore",),), (("up", 3),)):
                self.assert_compared(picks_to(*picks) + ends, picks_to(*fewer) + ends)
                self.assert_compared(picks_to(*fewer) + ends, picks_to(*picks) + ends)
        self.assert_told_apart(picks_to(*picks) + (("restore",),), picks_to(*picks[1:]) + (("restore",),))
        self.assert_told_apart(picks_to(*picks) + (("restore",),), picks_to(*picks[:-1]) + (("restore",),))

    def test_one_size_alone(self):
        up, down = (("place", "up"),), (("place", "down"),)
        picks = [(up, 28), (down, 24), (FOUR_KEYS, 20), (up, 12), (down, 6), (up, 3)]
        for at, (order, size) in enumerate(picks):
            for changed in {size - 1, size + 1, 2 if at == 5 else size - 2}:
                other = picks[:at] + [(order, changed)] + picks[at + 1:]
                self.assert_told_apart(picks_to(*picks), picks_to(*other))
                self.assert_told_apart(picks_to(*other), picks_to(*picks))
        for size in range(2, 29):
            for word in ("first", "last"):
                table = self.assert_told_apart(((word, size),), ((word, size + 1),))
                self.assertGreater(len(table), size)
        for size in range(2, 30):
            self.assert_told_apart((), (("first", size),))
            self.assert_told_apart((("last", size), REVERSE), (REVERSE,))

    def test_a_first_pick_that_shifts_what_picks_behind_it_leave(self):
        for behind in range(1, 9):
            picks = [((("place", ("down", "up")[at % 2]),), 28 - at) for at in range(behind)]
            self.assert_told_apart(picks_to(((("place", "up"),), 29), *picks), picks_to(*picks))

    def test_the_columns_of_both(self):
        for column, against in itertools.product(range(4), range(4)):
            program, other = (("up", column), ("restore",), ("first", 2)), (("down", against), ("restore",), ("last", 2))
            self.assert_told_apart(program, other)
            self.assert_told_apart((("up", column),), (("down", against),))

    def test_four_hundred_commands(self):
        source = random.Random(34)
        sorts = [(word, column) for word in ("up", "down") for column in range(4)]
        for _ in range(6):
            program = tuple(source.choice(sorts + [REVERSE, (source.choice(("first", "last")), source.randint(2, 29))])
                            for _ in range(400))
            self.assert_same(program, program)
            for at in (0, 1, 200, 398, 399):
                for command in (REVERSE, ("up", 0), ("first", 2), ("last", 29)):
                    other = program[:at] + (command,) + program[at + 1:]
                    self.assert_compared(program, other)
        self.assert_told_apart((REVERSE,) * 400, (REVERSE,) * 399)
        self.assert_told_apart((("up", 0), REVERSE) * 200, (("up", 0), REVERSE) * 199 + (("up", 0),))

    def test_far_repeats(self):
        with few_steps():
            self.assert_told_apart((repeat(FAR, REVERSE),), (repeat(FAR - 1, REVERSE),))
            self.assert_same((repeat(FAR, REVERSE),), (repeat(FAR - 2, REVERSE),))
            self.assert_same((repeat(FAR, ("up", 0), ("first", 3)),), (("up", 0), ("first", 3)))
            self.assert_told_apart((repeat(FAR, ("up", 0), ("first", 3)),), (repeat(FAR, ("up", 0), ("first", 4)),))
            self.assert_told_apart((repeat(FAR, repeat(FAR - 1, REVERSE, ("last", 9))),), (repeat(FAR, REVERSE),))
            self.assert_same((repeat(FAR, repeat(FAR, repeat(FAR))),), ())

    def test_small_repeats_as_they_are_written_out(self):
        for program in random_programs(35, 200, sizes=(2, 3, 4)):
            flat = tuple(written_out(program))
            if len(flat) <= 400:
                self.assert_same(program, flat)
                self.assert_same(flat, program)


class ComparingErrorsTest(ErrorCase):
    def test_wrong_programs(self):
        for function in (same, difference):
            for value, index in WRONG_PROGRAMS:
                with self.subTest(function=function.__name__, value=repr(value)):
                    self.assert_error(InvalidProgram, "index", index, function, value, ())
                    self.assert_error(InvalidProgram, "index", index, function, (), value)
                    self.assert_error(InvalidProgram, "index", index, function, other=value, program=(REVERSE,))

    def test_the_first_parameter_is_the_first_to_be_wrong(self):
        for function in (same, difference):
            self.assert_error(InvalidProgram, "index", 1, function, (REVERSE, None), (None,))
            self.assert_error(InvalidProgram, "index", 0, function, (None,), (REVERSE, None))
            self.assert_error(InvalidProgram, "index", None, function, None, (None,))
            self.assert_error(InvalidProgram, "index", 0, function, other=None, program=(None,))

    def test_true_and_false_after_an_equal_call(self):
        for function in (same, difference):
            for _ in range(2):
                function((("up", 1),), (("up", 0),))
                self.assert_error(InvalidProgram, "index", 0, function, (("up", True),), (("up", 0),))
                self.assert_error(InvalidProgram, "index", 0, function, (("up", 1),), (("up", False),))
                self.assert_error(InvalidProgram, "index", 0, function, (("repeat", True, ()),), ())

    def test_base_class(self):
        for function in (same, difference):
            with self.assertRaises(TableError):
                function((), [])

    def test_by_name_and_equal_calls(self):
        program, other = (("up", 0), ("first", 3)), (("up", 0), ("first", 4))
        for function in (same, difference):
            self.assertEqual(function(other=other, program=program), function(program, other))
            self.assertEqual(function(program, other), function(program, other))

    def test_lists_that_are_passed_stay_as_they_are(self):
        for function in (same, difference):
            given = [("up", 0)]
            self.assert_error(InvalidProgram, "index", None, function, given, given)
            self.assertEqual(given, [("up", 0)])


if __name__ == "__main__":
    unittest.main()
