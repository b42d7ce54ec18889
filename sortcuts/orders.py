"""Orders: by which columns, and in which directions, the records of a table are sorted."""

from sortcuts.errors import InvalidColumns, InvalidNumber, InvalidOrder
from sortcuts.limits import MOST_KEYS
from sortcuts.tables import check_columns_below, count_columns, every_place, is_integer, records_at

# In the sequence in which Python compares them: the numbers of orders depend on it.
DIRECTIONS = ("down", "up")


def is_word(value, words):
    # Only strings are compared, so that no other value can claim to be equal to a word.
    return isinstance(value, str) and value in words


def is_pair(value):
    return isinstance(value, tuple) and len(value) == 2


def is_sort_column(value):
    return is_integer(value) and 0 <= value < MOST_KEYS


def is_key(value):
    return is_pair(value) and is_sort_column(value[0]) and is_word(value[1], DIRECTIONS)


def is_place_part(value):
    return is_pair(value) and is_word(value[0], ("place",)) and is_word(value[1], DIRECTIONS)


def check_order(order):
    """Raise InvalidOrder unless the value is an order."""
    if not isinstance(order, tuple) or len(order) == 0:
        raise InvalidOrder(None)
    columns = []
    for index, part in enumerate(order[:-1]):
        if not is_key(part) or part[0] in columns:
            raise InvalidOrder(index)
        columns.append(part[0])
    if not is_place_part(order[-1]):
        raise InvalidOrder(len(order) - 1)


def is_order(value):
    try:
        check_order(value)
    except InvalidOrder:
        return False
    return True


def columns_of(order):
    return [column for column, direction in order[:-1]]


def opposite(direction):
    return "down" if direction == "up" else "up"


def turned(order):
    check_order(order)
    return tuple([(part, opposite(direction)) for part, direction in order])


def sort_values(table, order, place):
    """Return what the place is sorted by; a negative value makes an ascending sort descend."""
    found = []
    for part, direction in order:
        value = place if part == "place" else table[place][part]
        found.append(value if direction == "up" else -value)
    return tuple(found)


def sorted_places(table, places, order):
    """Return these places of the table, in the sequence of their records in the order."""
    return tuple(sorted(places, key=lambda place: sort_values(table, order, place)))


def places_by(table, order):
    width = count_columns(table)
    check_order(order)
    check_columns_below(columns_of(order), width)
    return sorted_places(table, every_place(table), order)


def sorted_by(table, order):
    return records_at(table, places_by(table, order))


def check_columns(columns):
    """Raise InvalidColumns unless the value is a number of columns that can be sorted by."""
    if not is_integer(columns) or not 1 <= columns <= MOST_KEYS:
        raise InvalidColumns(columns)


def count_with_keys(columns, keys):
    """Return the number of orders with so many keys, whose columns are among so many."""
    count = len(DIRECTIONS)
    for used in range(keys):
        count *= (columns - used) * len(DIRECTIONS)
    return count


def count_shorter(columns, keys):
    return sum([count_with_keys(columns, fewer) for fewer in range(keys)])


def count_orders(columns):
    check_columns(columns)
    return count_shorter(columns, columns + 1)


def order_at(columns, number):
    check_columns(columns)
    if not is_integer(number) or not 0 <= number < count_orders(columns):
        raise InvalidNumber(number)
    keys = 0
    while count_shorter(columns, keys + 1) <= number:
        keys += 1
    return order_with_keys(columns, keys, number - count_shorter(columns, keys))


def order_with_keys(columns, keys, rank):
    """Return the order with this rank, from 0, among the orders with so many keys."""
    free = list(range(columns))
    order = []
    for left in reversed(range(keys)):
        # So many orders go on from each choice of the next key.
        choice, rank = divmod(rank, count_with_keys(len(free) - 1, left))
        at, direction = divmod(choice, len(DIRECTIONS))
        order.append((free.pop(at), DIRECTIONS[direction]))
    order.append(("place", DIRECTIONS[rank]))
    return tuple(order)


def number_of(columns, order):
    check_columns(columns)
    check_order(order)
    check_columns_below(columns_of(order), columns)
    return count_shorter(columns, len(order) - 1) + rank_with_keys(columns, order)


def rank_with_keys(columns, order):
    """Return the rank of the order, from 0, among the orders with as many keys."""
    free = list(range(columns))
    rank = 0
    for column, direction in order[:-1]:
        choice = free.index(column) * len(DIRECTIONS) + DIRECTIONS.index(direction)
        rank = rank * len(free) * len(DIRECTIONS) + choice
        free.remove(column)
    return rank * len(DIRECTIONS) + DIRECTIONS.index(order[-1][1])
