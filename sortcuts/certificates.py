"""Certificates: the true one of two claims, with a paper that the checker accepts."""

from sortcuts.comparing import difference
from sortcuts.reach import cut_down, keys_along, keys_towards, order_along, way_to


def program_certificate(program, other):
    table = difference(program, other)
    if table is None:
        return ("same", program, other), None
    return ("different", program, other), table


def stuck_paper(table, places):
    """Return the paper for places that cannot be left alone, because nothing more can be cut off."""
    picks, kept = cut_down(table, places)
    groups = [keys_towards(table, kept, place)[1] for place in kept if place not in places]
    return ("stuck", kept, tuple(groups))


def groups_paper(table, places):
    """Return the paper for places that no order has in this sequence."""
    keys, groups = keys_along(table, places)
    return ("groups", tuple(groups))


def way_certificate(table, places):
    program = way_to(table, places)
    if program is not None:
        return ("way", table, places), program
    if order_along(table, places) is None:
        return ("no way", table, places), groups_paper(table, places)
    return ("no way", table, places), stuck_paper(table, places)
