import itertools
import random
import unittest

from sortcuts.errors import InvalidProgram
from sortcuts.normal import each_order, normal_form
from sortcuts.orders import is_order, turned
from sortcuts.running import run, run_places
from tests.checks import ErrorCase
from tests.program_samples import PROGRAMS, REVERSE, nest, repeat
from tests.reference import expected_normal_form, expected_picks, random_programs, random_table, written_out
from tests.samples import DOWN, FOUR_KEYS, UP

UP_0 = ((0, "up"), ("place", "up"))
DOWN_0 = ((0, "down"), ("place", "up"))

COMMANDS = (
    ("up", 0), ("down", 0), ("up", 1), ("down", 1), ("reverse",), ("restore",),
    ("first", 2), ("last", 2), ("first", 3), ("last", 3),
)


def leave_by_picks(table, form):
    """What the document says that a pick keeps, and the order at the end, for a table whose last column is the place."""
    picks, order = form
    rows = list(table)
    for by, size in picks:
        rows = in_order(rows, by)[:size]
    return tuple(in_order(rows, order))


def in_order(rows, order):
    # Stable sorts, the least important element first.
    for part, direction in reversed(order):
        column = -1 if part == "place" else part
        rows = sorted(rows, key=lambda row: row[column], reverse=direction == "down")
    return rows


class NormalFormTest(unittest.TestCase):
    def test_examples(self):
        self.assertEqual(
            normal_form((("up", 0), ("first", 3), ("up", 1))),
            (((UP_0, 3),), ((1, "up"), (0, "up"), ("place", "up"))))
        self.assertEqual(
            normal_form((REVERSE, ("first", 3), REVERSE, ("last", 9))), (((DOWN, 3),), UP))

    def test_without_cuts(self):
        self.assertEqual(normal_form(()), ((), UP))
        self.assertEqual(normal_form((REVERSE,)), ((), DOWN))
        self.assertEqual(normal_form((("restore",),)), ((), UP))
        self.assertEqual(normal_form((("up", 1), REVERSE, ("restore",))), ((), UP))
        self.assertEqual(normal_form((("up", 0),)), ((), UP_0))
        self.assertEqual(normal_form((("up", 0), ("down", 0))), ((), DOWN_0))
        self.assertEqual(normal_form((("down", 0), REVERSE)), ((), ((0, "up"), ("place", "down"))))
        self.assertEqual(
            normal_form((("up", 0), ("up", 1), ("down", 0))), ((), ((0, "down"), (1, "up"), ("place", "up"))))
        self.assertEqual(normal_form((("down", 1), ("up", 2), ("down", 0), ("up", 3))), ((), FOUR_KEYS))

    def test_first_and_last(self):
        for size in range(2, 30):
            self.assertEqual(normal_form((("first", size),)), (((UP, size),), UP))
            self.assertEqual(normal_form((("last", size),)), (((DOWN, size),), UP))
            self.assertEqual(
                normal_form((("up", 0), ("last", size))),
                (((((0, "down"), ("place", "down")), size),), UP_0))

    def test_a_pick_whose_size_is_not_smaller_is_left_out(self):
        self.assertEqual(normal_form((("first", 3), ("up", 0), ("first", 3))), (((UP, 3),), UP_0))
        self.assertEqual(normal_form((("first", 3), ("up", 0), ("first", 4))), (((UP, 3),), UP_0))
        self.assertEqual(normal_form((("first", 3), ("up", 0), ("first", 2))), (((UP, 3), (UP_0, 2)), UP_0))
        self.assertEqual(
            normal_form((("first", 9), ("last", 4), ("up", 0), ("first", 5), ("restore",), ("last", 3))),
            (((UP, 9), (DOWN, 3)), UP))

    def test_of_neighbors_with_the_same_order_the_first_is_left_out(self):
        self.assertEqual(normal_form((("first", 5), ("first", 4), ("first", 3))), (((UP, 3),), UP))
        self.assertEqual(normal_form((("first", 5), REVERSE, ("last", 4))), (((UP, 4),), DOWN))
        self.assertEqual(
            normal_form((("first", 5), ("last", 4), ("first", 3))), (((UP, 5), (DOWN, 4), (UP, 3)), UP))
        self.assertEqual(
            normal_form((("first", 9), ("first", 8), ("last", 7), ("last", 6), ("first", 5), ("first", 4))),
            (((UP, 8), (DOWN, 6), (UP, 4)), UP))

    def test_picks_become_neighbors_when_a_needless_one_between_them_is_left_out(self):
        self.assertEqual(normal_form((("first", 5), ("last", 5), ("first", 4))), (((UP, 4),), UP))
        self.assertEqual(normal_form((("first", 5), ("up", 0), ("last", 29), ("restore",), ("first", 2))), (((UP, 2),), UP))

    def test_a_pick_is_compared_with_picks_that_are_left_out_too(self):
        # The pick to 3 goes, as its neighbor has the same order; the picks to 3 and 4 behind it had no effect before.
        self.assertEqual(
            normal_form((("first", 3), ("up", 0), ("last", 3), ("first", 4), ("restore",), ("first", 2))),
            (((UP, 2),), UP))

    def test_twenty_eight_picks(self):
        program = tuple((("first", "last")[size % 2], size) for size in range(29, 1, -1))
        picks, order = normal_form(program)
        self.assertEqual([size for by, size in picks], list(range(29, 1, -1)))
        self.assertEqual([by for by, size in picks], [DOWN, UP] * 14)
        self.assertEqual(order, UP)

    def test_random_programs_as_the_document_defines_it(self):
        for sizes in ((2, 3), (2, 3, 4, 5, 6, 7), tuple(range(2, 30))):
            for program in random_programs(len(sizes), 500, columns=4, sizes=sizes):
                with self.subTest(program):
                    self.assertEqual(normal_form(program), expected_normal_form(program))

    def test_long_random_programs(self):
        source = random.Random(7)
        words = [("up", 0), ("down", 1), ("reverse",), ("restore",)]
        for _ in range(60):
            program = tuple(
                source.choice(words) if source.random() < 0.5 else (source.choice(("first", "last")), source.randint(2, 29))
                for _ in range(source.choice((20, 60, 400))))
            self.assertEqual(normal_form(program), expected_normal_form(program))

    def test_kinds_of_values(self):
        for program in PROGRAMS:
            form = normal_form(program)
            self.assertEqual([type(form), len(form), type(form[0])], [tuple, 2, tuple])
            self.assertTrue(is_order(form[1]))
            for pick in form[0]:
                self.assertEqual([type(pick), len(pick), type(pick[1])], [tuple, 2, int])
                self.assertTrue(is_order(pick[0]))

    def test_by_name_and_equal_calls(self):
        for program in PROGRAMS:
            self.assertEqual(normal_form(program=program), normal_form(program))


class SameEffectTest(unittest.TestCase):
    @classmethod
    def setUpClass(cls):
        source = random.Random(8)
        sizes = [1, 2, 10, 20, 29, 30] + [3, 4, 5, 6] * 12
        cls.tables = [random_table(source, 2, records) for records in sizes]

    def effect(self, function, program):
        return tuple(function(table, program) for table in self.tables)

    def test_all_short_programs_have_the_same_effect_exactly_if_their_normal_forms_are_equal(self):
        effects, forms = {}, {}
        for length in range(4):
            for program in itertools.product(COMMANDS, repeat=length):
                form, effect = normal_form(program), self.effect(run, program)
                self.assertEqual(effects.setdefault(form, effect), effect, program)
                self.assertEqual(forms.setdefault(effect, form), form, program)
        self.assertGreater(len(forms), 100)

    def test_the_same_places_are_left_if_the_normal_forms_are_equal(self):
        effects = {}
        for length in range(3):
            for program in itertools.product(COMMANDS, repeat=length):
                effect = self.effect(run_places, program)
                self.assertEqual(effects.setdefault(normal_form(program), effect), effect, program)

    def test_programs_that_differ_in_cuts_of_thirty_records_only(self):
        table = random_table(random.Random(13), 2, 30)
        programs = ((), (("first", 29),), (("last", 29),), (("first", 29), ("last", 28)), (("last", 29), ("first", 28)))
        self.assertEqual(len({normal_form(program) for program in programs}), 5)
        self.assertEqual(normal_form((("first", 29), ("last", 29))), normal_form((("first", 29),)))
        self.assertEqual(len({run(table, program) for program in programs}), 4)
        # The last two leave the same of 30 records, but not of 29.
        self.assertEqual(run(table, programs[3]), run(table, programs[4]))
        self.assertNotEqual(run(table[:29], programs[3]), run(table[:29], programs[4]))

    def test_random_programs_leave_what_their_normal_form_says(self):
        source = random.Random(9)
        for program in random_programs(10, 300, columns=3, sizes=(2, 3, 4, 5, 9, 20, 29)):
            form = normal_form(program)
            for records in (1, 2, 7, 30):
                table = random_table(source, 3, records)
                with self.subTest(program=program, records=records):
                    self.assertEqual(run(table, program), leave_by_picks(table, form))
                    self.assertEqual(run_places(table, program), tuple(row[-1] for row in leave_by_picks(table, form)))

    def test_the_columns_of_the_programs_need_not_be_equal(self):
        self.assertEqual(normal_form((("up", 3), ("restore",))), normal_form(()))
        self.assertEqual(normal_form((repeat(2, ("up", 2), ("first", 3), ("restore",), ("first", 2)),)),
                         normal_form((("up", 2), ("first", 3), ("restore",), ("last", 29), ("first", 2))))


class EachOrderTest(ErrorCase):
    def test_example(self):
        self.assertEqual(list(each_order((("up", 0), REVERSE))), [UP_0, turned(UP_0)])

    def test_no_command(self):
        self.assertEqual(list(each_order(())), [])

    def test_every_command(self):
        program = (("down", 1), ("up", 0), ("first", 3), REVERSE, ("down", 1), ("last", 2), ("restore",), REVERSE)
        first, second = ((1, "down"), ("place", "up")), ((0, "up"), (1, "down"), ("place", "up"))
        fifth = ((1, "down"), (0, "down"), ("place", "down"))
        self.assertEqual(
            list(each_order(program)), [first, second, second, turned(second), fifth, fifth, UP, DOWN])

    def test_a_repeat_is_one_command(self):
        self.assertEqual(list(each_order((repeat(3, REVERSE), repeat(2, REVERSE, ("up", 0)), repeat(9)))),
                         [DOWN, ((0, "up"), ("place", "down")), ((0, "up"), ("place", "down"))])
        self.assertEqual(len(list(each_order(nest(4, ("up", 0)) + nest(2) + (REVERSE,)))), 3)

    def test_random_programs(self):
        for program in random_programs(11, 300, columns=4):
            with self.subTest(program):
                expected = [expected_picks(program[:length])[1] for length in range(1, len(program) + 1)]
                self.assertEqual(list(each_order(program)), expected)

    def test_the_last_order_is_that_of_the_normal_form(self):
        for program in PROGRAMS:
            self.assertEqual([UP, *each_order(program)][-1], normal_form(program)[1])

    def test_errors_are_raised_when_the_iteration_begins(self):
        for program in (None, [], (None,), (REVERSE, None), (REVERSE,) * 401):
            found = each_order(program)
            with self.assertRaises(InvalidProgram):
                next(iter(found))

    def test_kinds_of_values_and_by_name(self):
        for program in PROGRAMS:
            found = list(each_order(program=program))
            self.assertEqual(found, list(each_order(program)))
            self.assertTrue(all(is_order(order) for order in found))


class WrittenOutTest(unittest.TestCase):
    def test_repeats_have_the_normal_form_of_the_same_commands_written_out(self):
        for program in random_programs(12, 400, columns=4, sizes=(2, 3, 4, 5, 6, 29)):
            flat = tuple(written_out(program))
            if len(flat) <= 400:
                with self.subTest(program):
                    self.assertEqual(normal_form(program), normal_form(flat))


if __name__ == "__main__":
    unittest.main()
