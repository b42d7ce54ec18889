"""Orders and tables, and values that are none, for several test files."""

import itertools

from tests.checks import Odd

UP = (("place", "up"),)
DOWN = (("place", "down"),)
FOUR_KEYS = ((3, "up"), (0, "down"), (2, "up"), (1, "down"), ("place", "up"))

# Values that are not orders, each with the index of the error.
WRONG_ORDERS = (
    ((), None),
    ([], None),
    ([(1, "up"), ("place", "up")], None),
    ("place", None),
    ("", None),
    (None, None),
    (0, None),
    (True, None),
    ({("place", "up"): 1}, None),
    (((1, "up"),), 0),
    (((1, "up"), (0, "up")), 1),
    ((("place", "up"), (1, "up")), 0),
    ((("place", "up"), ("place", "up")), 0),
    (((1, "up"), ("place", "up"), ("place", "up")), 1),
    (((1, "up"), ("place", "up"), (0, "up")), 1),
    (((1, "up"), (1, "down"), ("place", "up")), 1),
    (((1, "up"), (0, "up"), (1, "up"), ("place", "up")), 2),
    (((1, "up"), (1, "up")), 1),
    (((-1, "up"), ("place", "up")), 0),
    (((4, "up"), ("place", "up")), 0),
    (((0, "up"), (4, "up"), ("place", "up")), 1),
    (FOUR_KEYS[:4] + ((4, "up"),) + UP, 4),
    (FOUR_KEYS[:4] + ((0, "up"),) + UP, 4),
    (FOUR_KEYS[:4], 3),
    (((10 ** 39, "up"), ("place", "up")), 0),
    (((0, "Up"), ("place", "up")), 0),
    (((0, "left"), ("place", "up")), 0),
    (((0, ""), ("place", "up")), 0),
    (((0, 1), ("place", "up")), 0),
    (((0, None), ("place", "up")), 0),
    (((0, b"up"), ("place", "up")), 0),
    (((0, ("up",)), ("place", "up")), 0),
    (((0, "up"), ("place", "left")), 1),
    (((0, "up"), ("place", "up ")), 1),
    (((0, "up"), ("place", None)), 1),
    (((0, "up"), ("Place", "up")), 1),
    (((0, "up"), (b"place", "up")), 1),
    (((0, "up"), ("place",)), 1),
    (((0, "up"), ("place", "up", "up")), 1),
    (((0, "up"), ["place", "up"]), 1),
    (((0, "up"), "up"), 1),
    (((0, "up"), ()), 1),
    (((0, "up"), None), 1),
    (([0, "up"], ("place", "up")), 0),
    (((0,), ("place", "up")), 0),
    ((("up", 0), ("place", "up")), 0),
    (((0, "up", "up"), ("place", "up")), 0),
    (("0u", ("place", "up")), 0),
    (((), ("place", "up")), 0),
    ((("0", "up"), ("place", "up")), 0),
    (((True, "up"), ("place", "up")), 0),
    (((False, "up"), ("place", "up")), 0),
    (((1, "up"), (True, "down"), ("place", "up")), 1),
    (((2, "up"), (False, "down"), ("place", "up")), 1),
    (((None, "up"), ("place", "up")), 0),
    ((("column", "up"), ("place", "up")), 0),
    ((0, "up"), 0),
    (("place", "up"), 0),
    (("up",), 0),
    ((None,), 0),
    (((Odd(), "up"), ("place", "up")), 0),
    (((0, Odd()), ("place", "up")), 0),
    (((0, "up"), (Odd(), "up")), 1),
    (((0, "up"), ("place", Odd())), 1),
    (((0, "up"), Odd()), 1),
)

# Values that are not tables, each with the index of the error.
WRONG_TABLES = (
    ((), None), ([(1,)], None), (((1,),) * 31, None), (None, None), ("1", None), (((3, 1), (1,)), 1),
    (((1,), (True,)), 1), (((False,), (1,)), 0), (((),), 0), (((1, 2, 3, 4, 5, 6),), 0), (((1,), [1]), 1), ((1, 2), 0),
)

# For a table of three records: values that are not places, each with the index of the error.
WRONG_PLACES = (
    (None, None), (True, None), (False, None), (0, None), ("", None), ("01", None), (b"01", None), ([], None),
    ([0, 1], None), ({}, None), ({0: 1, 1: 0}, None), ({0, 1}, None), (range(2), None), (Odd(), None),
    ((), None), ((0,), None), ((3,), None), ((None,), None), (((0, 1),), None),
    ((0, 3), 1), ((3, 0), 0), ((0, -1), 1), ((-1, 0), 0), ((10 ** 39, 0), 0), ((0, -(10 ** 39)), 1),
    ((0, 0), 1), ((0, 1, 0), 2), ((2, 1, 1, 7), 2), ((0, 1, 2, 3), 3), ((0, 1, 2, 0), 3), ((2, 1, 0) * 20, 3),
    ((True, 0), 0), ((0, True), 1), ((1, False), 1), ((0, 1, True), 2), ((1, 0, False), 2), ((False, False), 0),
    ((0, None), 1), ((None, None), 0), (("0", 1), 0), ((0, "1"), 1), ((0, (1,)), 1), (((0,), 1), 0), ((0, [1]), 1),
    (([], []), 0), ((0, b"1"), 1), ((0, Odd()), 1), ((Odd(), 0), 0), ((0, {}), 1), ((0, 1, ()), 2),
)


def every_order(columns):
    """All orders with columns below this number, in no certain sequence."""
    for keys in range(columns + 1):
        for chosen in itertools.permutations(range(columns), keys):
            for directions in itertools.product(("up", "down"), repeat=keys + 1):
                yield tuple(zip((*chosen, "place"), directions))
