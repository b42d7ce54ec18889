"""Programs: tuples of commands that sort a table, turn it, cut it, or repeat a program."""

from sortcuts.errors import InvalidProgram
from sortcuts.limits import LEAST_SIZE, MOST_COMMANDS, MOST_SIZE, MOST_TIMES
from sortcuts.orders import DIRECTIONS, is_sort_column, is_word
from sortcuts.tables import is_integer

MOST_NESTED = 4
CUTS = ("first", "last")
BARE_WORDS = ("reverse", "restore")


def is_size(value):
    return is_integer(value) and LEAST_SIZE <= value <= MOST_SIZE


def is_times(value):
    return is_integer(value) and 1 <= value <= MOST_TIMES


def is_plain_command(value):
    """Return True if the value is a command other than a repeat."""
    if not isinstance(value, tuple) or len(value) == 0:
        return False
    if is_word(value[0], BARE_WORDS):
        return len(value) == 1
    if len(value) != 2:
        return False
    if is_word(value[0], DIRECTIONS):
        return is_sort_column(value[1])
    return is_word(value[0], CUTS) and is_size(value[1])


def begins_repeat(value):
    """Return True if the value is a repeat, whatever stands in place of its program."""
    if not isinstance(value, tuple) or len(value) != 3:
        return False
    return is_word(value[0], ("repeat",)) and is_times(value[1])


def room_behind(program, depth, room):
    """Return how many commands fit behind the program, a number below 0 if it is wrong or too long itself.

    The depth is the number of programs nested up to this one; the room is how many commands fit from here on.
    """
    if not isinstance(program, tuple) or depth > MOST_NESTED:
        return -1
    for command in program:
        # Stopping here bounds the work for values that hold the same long tuple many times.
        if room < 0:
            return room
        room = room_behind_command(command, depth, room)
    return room


def room_behind_command(command, depth, room):
    if is_plain_command(command):
        return room - 1
    if begins_repeat(command):
        return room_behind(command[2], depth + 1, room - 1)
    return -1


def check_program(program):
    """Raise InvalidProgram unless the value is a program."""
    if not isinstance(program, tuple):
        raise InvalidProgram(None)
    room = MOST_COMMANDS
    for index, command in enumerate(program):
        room = room_behind_command(command, 1, room)
        if room < 0:
            raise InvalidProgram(index)


def is_program(value):
    try:
        check_program(value)
    except InvalidProgram:
        return False
    return True


def count_performed(command):
    if command[0] == "repeat":
        return command[1] * sum([count_performed(inner) for inner in command[2]])
    return 1


def count_commands(program):
    check_program(program)
    return sum([count_performed(command) for command in program])


def program_columns(program):
    """Return the columns by which the program sorts, some of them perhaps more than once."""
    columns = []
    for command in program:
        if command[0] in DIRECTIONS:
            columns.append(command[1])
        elif command[0] == "repeat":
            columns.extend(program_columns(command[2]))
    return columns
