"""Tables: tuples of records with equally many values."""

from sortcuts.errors import InvalidPlaces, InvalidTable, MissingColumn
from sortcuts.limits import MOST_COLUMNS, MOST_KEYS, MOST_RECORDS


def is_integer(value):
    # Python counts True and False among the integers, the document does not.
    return isinstance(value, int) and not isinstance(value, bool)


def is_record(value):
    if not isinstance(value, tuple) or not 1 <= len(value) <= MOST_COLUMNS:
        return False
    return all([is_integer(part) for part in value])


def check_table(table):
    """Raise InvalidTable unless the value is a table."""
    if not isinstance(table, tuple) or not 1 <= len(table) <= MOST_RECORDS:
        raise InvalidTable(None)
    for index, record in enumerate(table):
        if not is_record(record) or len(record) != len(table[0]):
            raise InvalidTable(index)


def is_table(value):
    try:
        check_table(value)
    except InvalidTable:
        return False
    return True


def count_columns(table):
    check_table(table)
    return len(table[0])


def every_place(table):
    return tuple(range(len(table)))


def is_place(table, value):
    return is_integer(value) and 0 <= value < len(table)


def check_places(table, places):
    """Raise InvalidPlaces unless the value is a tuple of two or more different places of the table."""
    if not isinstance(places, tuple) or len(places) < 2:
        raise InvalidPlaces(None)
    for index, place in enumerate(places):
        if not is_place(table, place) or place in places[:index]:
            raise InvalidPlaces(index)


def sort_columns(table):
    """Return the columns of the table that programs can sort by."""
    return list(range(min(len(table[0]), MOST_KEYS)))


def values_in(table, column):
    return [record[column] for record in table]


def steps_within(groups, values):
    """Return by how much the value changes from each place to the next one in its group; each place has a value."""
    return [values[after] - values[before] for group in groups for before, after in zip(group, group[1:])]


def records_at(table, places):
    return tuple([table[place] for place in places])


def check_columns_below(columns, width):
    """Raise MissingColumn, with the least such column, if one of the columns is not below the width."""
    missing = [column for column in columns if column >= width]
    if missing:
        raise MissingColumn(min(missing))
