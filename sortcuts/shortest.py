"""Shortest ways from one present order to another, and shortest programs with the same normal form."""

from sortcuts.normal import START, normal_form
from sortcuts.orders import check_order, turned


def without_columns(order, columns):
    return tuple([part for part in order if part[0] not in columns])


def way_without_restore(order, goal):
    """Return the least commands up, down and reverse that lead from the order to the goal, None if none do.

    Sorts put keys in front, and the parts behind them stay or are turned. So the goal begins with the keys that are
    sorted by, each once; if the rest must be turned, one reverse before the sorts turns it.
    """
    for keys in range(len(goal)):
        front, rest = goal[:keys], goal[keys:]
        left = without_columns(order, [column for column, direction in front])
        sorts = tuple([(direction, column) for column, direction in reversed(front)])
        if rest == left:
            return sorts
        if rest == turned(left):
            return (("reverse",),) + sorts
    return None


def way_between(order, goal):
    """Return the least commands up, down, reverse and restore that lead from the order to the goal."""
    direct = way_without_restore(order, goal)
    restored = (("restore",),) + way_without_restore(START, goal)
    return restored if direct is None else min([direct, restored], key=len)


def distance(order, other):
    check_order(order)
    check_order(other)
    return len(way_between(order, other))


def way_on(ways, goal):
    """Return the shortest way to the goal that goes on from one of the ways, which stand under their last orders."""
    return min([ways[order] + way_between(order, goal) for order in ways], key=len)


def program_for(picks, order):
    """Return a shortest program without repeats that makes just these picks and ends with this order.

    The picks are shortened. A pick can be made from its order or from the turned one; a shortest way to each of the two
    is all that the commands behind the pick depend on.
    """
    ways = {START: ()}
    for by, size in picks:
        ways = {
            by: way_on(ways, by) + (("first", size),),
            turned(by): way_on(ways, turned(by)) + (("last", size),),
        }
    return way_on(ways, order)


def shortest(program):
    picks, order = normal_form(program)
    return program_for(picks, order)


def least_commands(program):
    return len(shortest(program))
