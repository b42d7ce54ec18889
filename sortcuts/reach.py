"""Reach: which records of a table can be cut off, and which program leads to certain records in a certain sequence."""

from sortcuts.normal import shortened
from sortcuts.shortest import program_for
from sortcuts.tables import check_places, check_table, every_place, sort_columns, steps_within, values_in


def edge_key(table, group, place):
    """Return a key in which the place is among the last of the group, and not all of the group are; None if none is."""
    for column in sort_columns(table):
        values = [table[other][column] for other in group]
        value = table[place][column]
        if min(values) != max(values) and value == max(values):
            return (column, "up")
        if min(values) != max(values) and value == min(values):
            return (column, "down")
    return None


def keys_towards(table, kept, place):
    """Return keys that put the place behind others of the kept places, and the group that they leave level with it.

    In the group, each column is level, or the place is neither among its least nor among its greatest values. So if the
    place is inside the group, no order has it as the last one of the group, nor of the kept places.
    """
    keys, group = [], tuple(kept)
    key = edge_key(table, group, place)
    while key is not None:
        keys.append(key)
        group = tuple([other for other in group if table[other][key[0]] == table[place][key[0]]])
        key = edge_key(table, group, place)
    return keys, group


def order_that_ends_with(table, kept, place):
    """Return an order in which the place is the last one of the kept places, None if there is none."""
    keys, group = keys_towards(table, kept, place)
    if place == group[-1]:
        return tuple(keys + [("place", "up")])
    if place == group[0]:
        return tuple(keys + [("place", "down")])
    return None


def extreme_places(table):
    check_table(table)
    places = every_place(table)
    return tuple([place for place in places if order_that_ends_with(table, places, place) is not None])


def direction_of(steps):
    """Return the direction in which all the steps go or stay, None if there is none."""
    if all([step >= 0 for step in steps]):
        return "up"
    return "down" if all([step <= 0 for step in steps]) else None


def fitting_key(table, groups):
    """Return a key that agrees with the sequence in all groups and is not level in all of them; None if none does."""
    for column in sort_columns(table):
        steps = steps_within(groups, values_in(table, column))
        direction = direction_of(steps)
        if any(steps) and direction is not None:
            return (column, direction)
    return None


def split_group(group, values):
    """Return the group as a list of groups, parted wherever the value changes from one place to the next."""
    parts = [group[:1]]
    for before, after in zip(group, group[1:]):
        if values[before] == values[after]:
            parts[-1] += (after,)
        else:
            parts.append((after,))
    return parts


def keys_along(table, places):
    """Return keys that agree with the sequence of the places, and the groups that they leave level.

    It does no harm to sort by a key that agrees: it leaves less to the keys behind it.
    """
    keys, groups = [], [places]
    key = fitting_key(table, groups)
    while key is not None:
        keys.append(key)
        values = values_in(table, key[0])
        groups = [part for group in groups for part in split_group(group, values)]
        key = fitting_key(table, groups)
    return keys, groups


def order_along(table, places):
    keys, groups = keys_along(table, places)
    direction = direction_of(steps_within(groups, every_place(table)))
    return None if direction is None else tuple(keys + [("place", direction)])


def order_for(table, places):
    check_table(table)
    check_places(table, places)
    return order_along(table, places)


def next_cut(table, kept, places):
    """Return a place to cut off that is not among the places, and an order that ends with it; None if none is."""
    for place in kept:
        if place not in places:
            order = order_that_ends_with(table, kept, place)
            if order is not None:
                return place, order
    return None


def cut_down(table, places):
    """Return picks that cut off one record after the other, none of the places, and the places that are left.

    Whichever is cut off first does no harm: a record that is the last one in an order stays so when others go.
    """
    kept, picks = list(every_place(table)), []
    cut = next_cut(table, kept, places)
    while cut is not None:
        place, order = cut
        kept.remove(place)
        picks.append((order, len(kept)))
        cut = next_cut(table, kept, places)
    return picks, tuple(kept)


def way_to(table, places):
    order = order_for(table, places)
    if order is None:
        return None
    picks, kept = cut_down(table, places)
    return program_for(shortened(picks), order) if len(kept) == len(places) else None
