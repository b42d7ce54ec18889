"""Running: which records of a table a program leaves, and in which sequence."""

from sortcuts.normal import START, after_command, after_program
from sortcuts.orders import sorted_places
from sortcuts.programs import check_program, program_columns
from sortcuts.tables import check_columns_below, count_columns, every_place, records_at


def check_run(table, program):
    """Raise an error unless these are a table and a program that can be used with it."""
    width = count_columns(table)
    check_program(program)
    check_columns_below(program_columns(program), width)


def picked(table, places, picks):
    """Return those of the places that the picks keep, one pick after the other."""
    for order, size in picks:
        places = sorted_places(table, places, order)[:size]
    return places


def run_places(table, program):
    check_run(table, program)
    picks, order = after_program(program, START)
    return sorted_places(table, picked(table, every_place(table), picks), order)


def run(table, program):
    return records_at(table, run_places(table, program))


def each_table(table, program):
    check_run(table, program)
    places, order = every_place(table), START
    for command in program:
        picks, order = after_command(command, order)
        places = picked(table, places, picks)
        yield records_at(table, sorted_places(table, places, order))
