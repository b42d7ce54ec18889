"""Repeats: small ones against the same commands written out, far ones against what the document says of them."""

import itertools
import unittest

from sortcuts.normal import each_order, normal_form
from sortcuts.notation import format_program, parse_program
from sortcuts.programs import count_commands, is_program
from sortcuts.running import each_table, run, run_places
from tests.program_samples import FAR, REVERSE, nest, repeat
from tests.reference import (
    expected_normal_form, expected_places, expected_table, few_steps, random_programs, written_out)
from tests.samples import DOWN, UP

TABLE = ((3, 1, 0), (1, 2, 1), (3, 0, 2), (2, 2, 3), (1, 1, 4), (2, 0, 5))
UP_0 = ((0, "up"), ("place", "up"))

COMMANDS = (("up", 0), ("down", 1), ("reverse",), ("restore",), ("first", 4), ("last", 3), ("first", 2))

# Commands that are put before a repeat, so that it does not begin with the first order.
BEFORE = ((), (("up", 1),), (("down", 0), REVERSE), (("up", 0), ("down", 1), ("last", 5), REVERSE))


def far_like(inner, times):
    """The same commands a small number of times: as often, but for an even number of repetitions."""
    return inner * (times if times <= 4 else 4 - times % 2)


class SmallRepeatsTest(unittest.TestCase):
    def test_all_short_inner_programs(self):
        for length in range(4):
            for inner in itertools.product(COMMANDS, repeat=length):
                for times in (1, 2, 3, 4):
                    program = BEFORE[3] + (repeat(times, *inner), ("up", 0))
                    flat = BEFORE[3] + inner * times + (("up", 0),)
                    self.assertEqual(run_places(TABLE, program), expected_places(TABLE, flat), program)
                    self.assertEqual(normal_form(program), expected_normal_form(flat), program)

    def test_repeats_within_each_other(self):
        for program in random_programs(21, 300, sizes=(2, 3, 4, 5)):
            outer = (("down", 1), repeat(2, *program)) if is_program((repeat(2, *program),)) else program
            with self.subTest(outer):
                self.assertEqual(run_places(TABLE, outer), expected_places(TABLE, outer))
                self.assertEqual(normal_form(outer), expected_normal_form(outer))
                self.assertEqual(count_commands(outer), len(list(written_out(outer))))

    def test_more_times(self):
        inner = (("up", 1), REVERSE, ("down", 0), ("last", 5), REVERSE, REVERSE)
        for times in range(1, 50):
            for before in BEFORE:
                program = before + (repeat(times, *inner),)
                self.assertEqual(run_places(TABLE, program), expected_places(TABLE, program))
                self.assertEqual(normal_form(program), expected_normal_form(program))


class FarRepeatsTest(unittest.TestCase):
    def test_reverse(self):
        with few_steps():
            self.assertEqual(normal_form((repeat(FAR, REVERSE),)), ((), UP))
            self.assertEqual(normal_form((repeat(FAR - 1, REVERSE),)), ((), DOWN))
            self.assertEqual(run_places(TABLE, (repeat(FAR, REVERSE),)), (0, 1, 2, 3, 4, 5))
            self.assertEqual(run_places(TABLE, (repeat(FAR - 1, REVERSE),)), (5, 4, 3, 2, 1, 0))
            self.assertEqual(run_places(TABLE, (repeat(FAR, REVERSE, REVERSE),)), (0, 1, 2, 3, 4, 5))

    def test_sorts_and_reverse(self):
        front = ((0, "down"),)
        with few_steps():
            self.assertEqual(normal_form((repeat(FAR, ("up", 0), REVERSE),)), ((), front + UP))
            self.assertEqual(normal_form((repeat(FAR - 1, ("up", 0), REVERSE),)), ((), front + DOWN))
            self.assertEqual(normal_form((("up", 1), repeat(FAR, REVERSE, ("down", 0)))), ((), front + ((1, "up"),) + UP))
            self.assertEqual(
                normal_form((("up", 1), repeat(FAR - 1, REVERSE, ("down", 0)))), ((), front + ((1, "down"),) + DOWN))
            self.assertEqual(normal_form((repeat(FAR, REVERSE, ("up", 0), ("restore",), REVERSE),)), ((), DOWN))

    def test_without_commands_nothing_is_cut(self):
        with few_steps():
            for times in (1, 2, FAR - 1, FAR):
                for program in ((repeat(times),), (repeat(times, repeat(times, repeat(times))),), (repeat(times),) * 400):
                    self.assertEqual(run(TABLE, program), TABLE)
                    self.assertEqual(normal_form(program), ((), UP))
                self.assertEqual(list(each_table(TABLE, (repeat(times), REVERSE))), [TABLE, TABLE[::-1]])
                self.assertEqual(list(each_order((REVERSE, repeat(times)))), [DOWN, DOWN])
                self.assertEqual(count_commands((repeat(times), REVERSE)), 1)

    def test_commands_that_make_no_cut_cut_nothing(self):
        with few_steps():
            for inner in ((("up", 0),), (REVERSE, ("down", 1)), (("restore",), REVERSE), (("first", 6), ("last", 29))):
                for times in (FAR - 1, FAR):
                    self.assertEqual(len(run(TABLE, (repeat(times, *inner),))), 6)

    def test_the_same_cut_again_cuts_nothing(self):
        with few_steps():
            self.assertEqual(run_places(TABLE, (repeat(FAR, ("first", 2)),)), (0, 1))
            self.assertEqual(run_places(TABLE, (repeat(FAR, REVERSE, ("first", 4)),)), (2, 3, 4, 5))
            self.assertEqual(run_places(TABLE, (repeat(FAR, ("first", 4), REVERSE, ("first", 3), REVERSE),)), (1, 2, 3))
            self.assertEqual(
                normal_form((repeat(FAR, ("up", 0), ("first", 9), ("restore",), ("last", 4)),)),
                (((UP_0, 9), (DOWN, 4)), UP))
            self.assertEqual(normal_form((repeat(FAR, ("first", 3), REVERSE, ("last", 2)),)), (((UP, 2),), UP))

    def test_all_short_inner_programs_far_and_near(self):
        for length in range(3):
            for inner in itertools.product(COMMANDS, repeat=length):
                for times, before in itertools.product((5, 6, FAR - 1, FAR), BEFORE):
                    program, flat = before + (repeat(times, *inner),), before + far_like(inner, times)
                    self.assertEqual(run_places(TABLE, program), expected_places(TABLE, flat), program)
                    self.assertEqual(run(TABLE, program), expected_table(TABLE, flat), program)
                    self.assertEqual(normal_form(program), expected_normal_form(flat), program)
                    self.assertEqual(list(each_order(program))[-1:], [expected_normal_form(flat)[1]], program)
                    self.assertEqual(list(each_table(TABLE, program))[-1:], [expected_table(TABLE, flat)], program)

    def test_within_each_other(self):
        inner = (("up", 1), REVERSE, ("last", 5), ("down", 0))
        for times in itertools.product((1, 2, 3, FAR - 1, FAR), repeat=3):
            program = (("down", 1), repeat(times[0], repeat(times[1], REVERSE, repeat(times[2], *inner), ("up", 0))))
            flat = (REVERSE,) + far_like(inner, times[2]) + (("up", 0),)
            flat = (("down", 1),) + far_like(far_like(flat, times[1]), times[0])
            with self.subTest(times), few_steps():
                self.assertEqual(run_places(TABLE, program), expected_places(TABLE, flat))
                self.assertEqual(normal_form(program), expected_normal_form(flat))

    def test_four_programs_nested_with_four_hundred_commands(self):
        for times in (FAR - 1, FAR):
            inner = (("up", 0), ("last", 5), REVERSE, ("down", 1), ("first", 29)) * 79
            program = (repeat(times, repeat(times, repeat(times, *inner))), REVERSE)
            with few_steps(10 ** 6):
                self.assertEqual(run(TABLE, program), expected_table(TABLE, inner * (4 - times % 2) + (REVERSE,)))
                self.assertEqual(len(list(each_table(TABLE, program))), 2)
                self.assertEqual(len(list(each_order(program))), 2)
                self.assertEqual(count_commands(program), 395 * times ** 3 + 1)
                self.assertEqual(parse_program(format_program(program)), program)

    def test_four_hundred_repeats(self):
        program = (repeat(FAR - 1, REVERSE),) * 199 + nest(2)
        with few_steps(10 ** 6):
            self.assertEqual(run(TABLE, program), TABLE[::-1])
            self.assertEqual(len(list(each_table(TABLE, program))), 200)
            self.assertEqual(list(each_order(program))[-2:], [DOWN, DOWN])


if __name__ == "__main__":
    unittest.main()
