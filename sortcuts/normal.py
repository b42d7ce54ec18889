"""Normal forms: which picks a program makes, and the present order at its end."""

from sortcuts.orders import DIRECTIONS, turned
from sortcuts.programs import check_program

START = (("place", "up"),)


def sorted_first(column, direction, order):
    """Return the order that begins with this key and goes on as the given one."""
    return ((column, direction),) + tuple([part for part in order if part[0] != column])


def after_plain(command, order):
    """Return the present order after a command that is not a repeat."""
    if command[0] in DIRECTIONS:
        return sorted_first(command[1], command[0], order)
    if command[0] == "reverse":
        return turned(order)
    if command[0] == "restore":
        return START
    return order


def picks_of_plain(command, order):
    """Return the list of the picks that a command other than a repeat makes: one or none."""
    if command[0] == "first":
        return [(order, command[1])]
    if command[0] == "last":
        return [(turned(order), command[1])]
    return []


def after_repeat(times, program, order):
    """Return the picks of the first repetition, and the present order after all of them.

    Later repetitions cut nothing: the first one has made a cut to each of their sizes already.
    A program puts certain keys in front and leaves or turns the parts behind them, or it forgets the order that
    it began with. So the orders after its repetitions alternate: an odd number of times ends as one does, an even
    number as two do.
    """
    picks, order = after_program(program, order)
    if times % 2 == 0:
        order = after_program(program, order)[1]
    return picks, order


def after_command(command, order):
    """Return the list of the picks that the command makes, and the present order after it."""
    if command[0] == "repeat":
        return after_repeat(command[1], command[2], order)
    return picks_of_plain(command, order), after_plain(command, order)


def after_program(program, order):
    """Return the list of the picks that the program makes, and the present order at its end."""
    picks = []
    for command in program:
        made, order = after_command(command, order)
        picks.extend(made)
    return picks, order


def shortened(picks):
    """Return the picks without those that cut nothing and those that the next one makes needless."""
    found = []
    for order, size in picks:
        # The last pick that was found has the least size so far.
        if found and size >= found[-1][1]:
            continue
        if found and found[-1][0] == order:
            found.pop()
        found.append((order, size))
    return tuple(found)


def normal_form(program):
    check_program(program)
    picks, order = after_program(program, START)
    return shortened(picks), order


def each_order(program):
    check_program(program)
    order = START
    for command in program:
        order = after_command(command, order)[1]
        yield order
