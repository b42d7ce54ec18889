"""Comparing programs: whether they have the same effect, and a table that tells them apart.

The tables are chains: from one place to the next, each column rises by one, falls by one, or stays as it is.
In a chain every order is either the sequence of the places or its opposite, so what picks leave is always a row of
neighboring places. If two programs have left rows of the same length, one of them a place further on than the other,
every pick that both make keeps it so.
"""

from sortcuts.limits import MOST_KEYS
from sortcuts.normal import normal_form
from sortcuts.orders import turned

SIGNS = {"up": 1, "down": -1}


def same(program, other):
    return normal_form(program) == normal_form(other)


def opposed_slopes(order, other):
    """Return the slopes of the columns of a chain in which the two orders, which differ, are opposite."""
    at = 0
    while order[at] == other[at]:
        at += 1
    # The columns before this element stay level, so that it decides; one order follows the chain, the other does not.
    slopes = {order[at][0]: SIGNS[order[at][1]], other[at][0]: -SIGNS[other[at][1]]}
    # The place cannot fall. Turning all slopes about keeps the orders opposite.
    turn = slopes.get("place", 1)
    return [turn * slopes.get(column, 0) for column in range(MOST_KEYS)]


def chain(slopes, records):
    """Return the chain of so many records; its fifth column, which no program sorts by, makes them all different."""
    return tuple([tuple([slope * place for slope in slopes] + [place]) for place in range(records)])


def without_common_end(picks, others):
    """Return both lists of picks without those at the end that are the same, and the first of these, or None."""
    left, right, behind = list(picks), list(others), None
    while left and right and left[-1] == right[-1]:
        behind = left.pop()
        right.pop()
    return left, right, behind


def chain_for_picks(picks, others):
    """Return a chain of which these shortened picks, which are not the same, leave different records.

    It has one record more than the least size in which they differ, so that no pick before has an effect on it.
    """
    left, right, behind = without_common_end(picks, others)
    if left and right and left[-1][1] == right[-1][1]:
        return chain(opposed_slopes(left[-1][0], right[-1][0]), left[-1][1] + 1)
    # Only one of the programs cuts here; it cuts off a record that the pick behind, in its opposite order, would keep.
    order, size = min([ends[-1] for ends in (left, right) if ends], key=lambda pick: pick[1])
    against = turned(order) if behind is None else behind[0]
    return chain(opposed_slopes(order, against), size + 1)


def difference(program, other):
    picks, order = normal_form(program)
    other_picks, other_order = normal_form(other)
    if order != other_order:
        # Two records are never cut.
        return chain(opposed_slopes(order, other_order), 2)
    if picks == other_picks:
        return None
    return chain_for_picks(picks, other_picks)
