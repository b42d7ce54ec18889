"""Tables, small ones and ones of thirty records, for several test files."""

import itertools
import random


def every_table(columns, records, values):
    """All tables of this form; many of them have equal values and equal records."""
    rows = list(itertools.product(values, repeat=columns))
    return itertools.product(rows, repeat=records)


def random_tables(seed, count, columns, records, values):
    source = random.Random(seed)
    return [tuple(tuple(source.choice(values) for _ in range(columns)) for _ in range(records)) for _ in range(count)]


# Equal values, equal records, one to five columns.
SMALL = (
    *every_table(1, 3, (0, 1, 2)), *every_table(1, 4, (0, 1)), *every_table(2, 3, (0, 1)),
    *random_tables(51, 25, 2, 4, (0, 1, 2)), *random_tables(52, 15, 3, 4, (0, 1)), *random_tables(53, 5, 4, 4, (0, 1)),
    *random_tables(54, 4, 5, 4, (0, 1, 2)), *random_tables(55, 5, 2, 5, (0, 1, 2)), *random_tables(56, 4, 3, 5, (0, 1)),
    ((0, 0),) * 5, ((0, 0, 0, 0, 0),) * 4, ((5,), (5,)), ((0, 0, 0, 0, 1), (0, 0, 0, 0, 0), (0, 0, 0, 0, 2)),
)

THIRTY = (
    *random_tables(57, 3, 1, 30, range(-20, 20)), *random_tables(58, 3, 2, 30, range(5)),
    *random_tables(59, 3, 4, 30, (0, 1)), *random_tables(60, 3, 5, 30, (0, 1, 2)), ((7, 7, 7),) * 30,
    *random_tables(61, 2, 4, 30, range(-10 ** 39, 10 ** 39, 10 ** 37)),
)
