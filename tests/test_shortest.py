import itertools
import random
import unittest

from sortcuts.errors import InvalidOrder, InvalidProgram, TableError
from sortcuts.normal import normal_form
from sortcuts.programs import is_program
from sortcuts.shortest import distance, least_commands, shortest
from tests.checks import ErrorCase
from tests.program_samples import FAR, PROGRAMS, REVERSE, WRONG_PROGRAMS, repeat
from tests.reference import expected_normal_form, few_steps, next_order, random_programs
from tests.samples import DOWN, FOUR_KEYS, UP, WRONG_ORDERS, every_order

COMMANDS = (
    ("up", 0), ("down", 0), ("up", 1), ("down", 1), ("reverse",), ("restore",),
    ("first", 2), ("last", 2), ("first", 3), ("last", 3),
)


def expected_distances(order, columns):
    """The number of rounds of all commands after which each order is reached."""
    moves = [(word, column) for word in ("up", "down") for column in range(columns)] + [REVERSE, ("restore",)]
    found, last, rounds = {order: 0}, [order], 0
    while last:
        rounds += 1
        fresh = {next_order(before, move) for before in last for move in moves} - set(found)
        found.update((after, rounds) for after in fresh)
        last = sorted(fresh, key=repr)
    return found


class DistanceTest(unittest.TestCase):
    def test_examples(self):
        self.assertEqual(distance(UP, ((0, "down"), ("place", "down"))), 2)
        self.assertEqual(distance(UP, ((0, "down"), ("place", "up"))), 1)
        self.assertEqual(distance(((0, "up"), ("place", "up")), ((0, "down"), ("place", "down"))), 1)

    def test_no_way_to_go(self):
        for order in every_order(3):
            self.assertEqual(distance(order, order), 0)

    def test_one_restore(self):
        for order in every_order(4):
            if order not in (UP, DOWN):
                self.assertEqual([distance(order, UP), distance(order, DOWN)], [1, 2])
        self.assertEqual([distance(DOWN, UP), distance(UP, DOWN)], [1, 1])

    def test_six_commands(self):
        goal = ((0, "up"), (1, "up"), (2, "up"), ("place", "down"))
        self.assertEqual(distance(((3, "up"), ("place", "up")), goal), 5)
        self.assertEqual(distance(((3, "up"), ("place", "up")), goal[:-1] + UP), 4)
        self.assertEqual(distance(FOUR_KEYS, goal), 5)

    def assert_distances(self, order, columns):
        for goal, rounds in expected_distances(order, columns).items():
            found = distance(order, goal)
            self.assertEqual(found, rounds, (order, goal))
            self.assertIs(type(found), int)

    def test_all_orders_of_one_two_and_three_columns_against_rounds_of_all_commands(self):
        for columns in (1, 2, 3):
            orders = set(every_order(columns))
            for order in orders:
                self.assertEqual(set(expected_distances(order, columns)), orders)
                self.assert_distances(order, columns)

    def test_some_orders_of_four_columns_against_rounds_of_all_commands(self):
        orders = random.Random(41).sample(list(every_order(4)), 6)
        for order in [UP, DOWN, FOUR_KEYS] + orders:
            self.assert_distances(order, 4)


class ShortestTest(unittest.TestCase):
    def assert_short(self, program, count):
        found = shortest(program)
        self.assertTrue(is_program(found))
        self.assertNotIn("repeat", [command[0] for command in found])
        self.assertEqual(normal_form(found), normal_form(program))
        self.assertEqual(len(found), count, (program, found))
        self.assertEqual(least_commands(program), count)
        self.assertIs(type(least_commands(program)), int)

    def test_examples(self):
        self.assertEqual(shortest((("up", 1), ("up", 0), ("up", 1))), (("up", 0), ("up", 1)))
        self.assertEqual(shortest((REVERSE, ("first", 3), REVERSE)), (("last", 3),))
        self.assertEqual(least_commands((("up", 0), ("down", 0), ("up", 0))), 1)

    def test_nothing_is_left(self):
        for program in ((), (repeat(FAR),), (REVERSE, REVERSE), (("restore",),), (("up", 3), ("restore",))):
            self.assertEqual([shortest(program), least_commands(program)], [(), 0])

    def test_all_programs_of_up_to_four_commands(self):
        least = {}
        for length in range(5):
            for program in itertools.product(COMMANDS, repeat=length):
                least.setdefault(expected_normal_form(program), length)
        for length in range(4):
            for program in itertools.product(COMMANDS, repeat=length):
                self.assert_short(program, least[expected_normal_form(program)])
        # Each normal form of four commands once.
        for program in itertools.product(COMMANDS, repeat=4):
            if least.get(expected_normal_form(program)) == 4:
                self.assert_short(program, 4)
                del least[expected_normal_form(program)]

    def test_a_shortest_program_has_none_shorter(self):
        for program in random_programs(42, 300, columns=4):
            found = shortest(program)
            self.assertEqual(normal_form(found), normal_form(program))
            self.assertEqual(least_commands(found), len(found))

    def test_picks_from_the_order_or_from_the_turned_one(self):
        self.assert_short((("first", 9), REVERSE, ("first", 8), REVERSE, ("first", 7), REVERSE, ("first", 6)), 5)
        self.assert_short((("up", 0), ("first", 9), ("down", 0), REVERSE, ("first", 8), ("restore",)), 5)
        self.assert_short((("up", 0), REVERSE, ("last", 9), ("up", 1)), 4)
        self.assert_short((("up", 0), ("first", 9), REVERSE, ("down", 1), ("last", 8), REVERSE), 4)

    def test_many_picks(self):
        alternating = tuple((("first", "last")[size % 2], size) for size in range(29, 1, -1))
        self.assert_short(alternating, 28)
        turned = tuple(command for size in range(29, 1, -1) for command in (REVERSE, ("first", size)))
        self.assert_short(turned, 28)
        sorts = tuple(command for size in range(29, 1, -1) for command in (("up", size % 4), ("first", size)))
        self.assert_short(sorts, 56)
        restored = tuple(
            command for size in range(29, 1, -1)
            for command in (("restore",), REVERSE, ("up", size % 3), ("up", 3), ("down", (size + 1) % 3), ("first", size)))
        self.assertLessEqual(least_commands(restored), 168)
        self.assertEqual(normal_form(shortest(restored)), normal_form(restored))

    def test_many_picks_against_all_choices_of_first_and_last(self):
        source = random.Random(43)
        for _ in range(40):
            orders = [source.choice(list(every_order(2))) for _ in range(4)]
            program = ()
            for order, size in zip(orders, (9, 7, 5, 3)):
                program += (("restore",),) + ((REVERSE,) if order[-1][1] == "down" else ())
                program += tuple((direction, column) for column, direction in reversed(order[:-1])) + (("first", size),)
            picks, last = normal_form(program)
            ways = []
            for turns in itertools.product((False, True), repeat=len(picks)):
                stops = [UP] + [next_order(by, REVERSE) if turn else by for (by, size), turn in zip(picks, turns)] + [last]
                ways.append(len(picks) + sum(distance(one, two) for one, two in zip(stops, stops[1:])))
            self.assert_short(program, min(ways))

    def test_far_repeats(self):
        with few_steps():
            self.assert_short((repeat(FAR, REVERSE),), 0)
            self.assert_short((repeat(FAR - 1, REVERSE),), 1)
            self.assert_short((repeat(FAR, ("up", 0), REVERSE),), 1)
            self.assert_short((repeat(FAR - 1, ("up", 0), REVERSE),), 2)
            self.assert_short((repeat(FAR, repeat(FAR, ("first", 3), ("up", 1))),), 2)
            self.assert_short((repeat(FAR, ("first", 9), repeat(FAR - 1, REVERSE), ("first", 4), REVERSE),), 2)

    def test_four_hundred_commands(self):
        self.assert_short((("up", 0), ("down", 1), ("up", 2), ("down", 3)) * 100, 4)
        self.assert_short((("up", 0), ("last", 9)) * 200, 2)

    def test_kinds_of_values(self):
        for program in PROGRAMS:
            found = shortest(program)
            self.assertIs(type(found), tuple)
            self.assertEqual({type(command) for command in found} - {tuple}, set())
            self.assertEqual(least_commands(program), len(found))
            self.assertEqual(normal_form(found), normal_form(program))


class ShortestErrorsTest(ErrorCase):
    def test_wrong_orders(self):
        for value, index in WRONG_ORDERS:
            with self.subTest(repr(value)):
                self.assert_error(InvalidOrder, "index", index, distance, value, UP)
                self.assert_error(InvalidOrder, "index", index, distance, UP, value)
                self.assert_error(InvalidOrder, "index", index, distance, other=value, order=FOUR_KEYS)

    def test_the_first_order_is_the_first_to_be_wrong(self):
        self.assert_error(InvalidOrder, "index", 1, distance, ((0, "up"), None), None)
        self.assert_error(InvalidOrder, "index", None, distance, (), (None,))
        self.assert_error(InvalidOrder, "index", 0, distance, other=(), order=(None,))

    def test_wrong_programs(self):
        for function in (shortest, least_commands):
            for value, index in WRONG_PROGRAMS:
                with self.subTest(function=function.__name__, value=repr(value)):
                    self.assert_error(InvalidProgram, "index", index, function, value)
                    self.assert_error(InvalidProgram, "index", index, function, program=value)

    def test_true_and_false_after_an_equal_call(self):
        for _ in range(2):
            self.assertEqual(distance(UP, ((1, "up"),) + UP), 1)
            self.assert_error(InvalidOrder, "index", 0, distance, UP, ((True, "up"),) + UP)
            self.assertEqual(least_commands((("up", 0),)), 1)
            self.assert_error(InvalidProgram, "index", 0, least_commands, (("up", False),))
            self.assert_error(InvalidProgram, "index", 0, shortest, (("up", False),))

    def test_base_class(self):
        for call in (lambda: distance(UP, ()), lambda: shortest([]), lambda: least_commands([])):
            with self.assertRaises(TableError):
                call()

    def test_by_name_and_equal_calls(self):
        self.assertEqual(distance(other=UP, order=FOUR_KEYS), 1)
        for program in PROGRAMS:
            self.assertEqual(shortest(program=program), shortest(program))
            self.assertEqual(least_commands(program=program), least_commands(program))

    def test_lists_that_are_passed_stay_as_they_are(self):
        for function in (shortest, least_commands):
            given = [("up", 0)]
            self.assert_error(InvalidProgram, "index", None, function, given)
            self.assertEqual(given, [("up", 0)])


if __name__ == "__main__":
    unittest.main()
