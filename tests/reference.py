"""The document's words about programs, followed command by command, to hold the package against."""

import contextlib
import itertools
import random
import sys

from tests.samples import every_order

UP = (("place", "up"),)


def written_out(program):
    """The commands that are performed, one by one; only for small numbers of times."""
    for command in program:
        if command[0] == "repeat":
            for _ in range(command[1]):
                yield from written_out(command[2])
        else:
            yield command


def move(rows, command):
    """Rows are pairs of a place and its record, in their present sequence."""
    word = command[0]
    if word == "up":
        return sorted(rows, key=lambda row: row[1][command[1]])
    if word == "down":
        return sorted(rows, key=lambda row: -row[1][command[1]])
    if word == "reverse":
        return rows[::-1]
    if word == "restore":
        return sorted(rows, key=lambda row: row[0])
    if word == "first":
        return rows[:command[1]]
    return rows[max(0, len(rows) - command[1]):]


def expected_rows(table, program):
    rows = list(enumerate(table))
    for command in written_out(program):
        rows = move(rows, command)
    return rows


def expected_places(table, program):
    return tuple(place for place, record in expected_rows(table, program))


def expected_table(table, program):
    return tuple(record for place, record in expected_rows(table, program))


def turn(order):
    return tuple((part, {"up": "down", "down": "up"}[direction]) for part, direction in order)


def next_order(order, command):
    if command[0] in ("up", "down"):
        return ((command[1], command[0]),) + tuple(part for part in order if part[0] != command[1])
    return {"reverse": turn(order), "restore": UP}.get(command[0], order)


def expected_picks(program):
    """The picks of point 9, not shortened, and the order at the end."""
    order, picks = UP, []
    for command in written_out(program):
        if command[0] == "first":
            picks.append((order, command[1]))
        if command[0] == "last":
            picks.append((turn(order), command[1]))
        order = next_order(order, command)
    return picks, order


def expected_short(picks):
    picks = [pick for at, pick in enumerate(picks) if not any(pick[1] >= before[1] for before in picks[:at])]
    while True:
        same = [at for at in range(len(picks) - 1) if picks[at][0] == picks[at + 1][0]]
        if not same:
            return tuple(picks)
        del picks[same[0]]


def expected_normal_form(program):
    picks, order = expected_picks(program)
    return expected_short(picks), order


def expected_order(table, places, order):
    """The places in the sequence of the order: stable sorts, the least important element first."""
    for part, direction in reversed(order):
        places = sorted(
            places, key=lambda place: place if part == "place" else table[place][part], reverse=direction == "down")
    return tuple(places)


def orders_of(table):
    return list(every_order(min(4, len(table[0]))))


def expected_left(table):
    """All that cutting off last records can leave, as sets of two or more places."""
    orders = orders_of(table)
    found = {frozenset(range(len(table)))}
    fresh = list(found)
    while fresh:
        kept = fresh.pop()
        for place in {expected_order(table, sorted(kept), order)[-1] for order in orders}:
            fewer = kept - {place}
            if len(fewer) >= 2 and fewer not in found:
                found.add(fewer)
                fresh.append(fewer)
    return {kept for kept in found if len(kept) >= 2}


def expected_ways(table):
    """All that some program leads to, as tuples of two or more places."""
    orders = orders_of(table)
    return {expected_order(table, sorted(kept), order) for kept in expected_left(table) for order in orders}


def every_sequence(table):
    """All tuples of two or more different places."""
    for count in range(2, len(table) + 1):
        yield from itertools.permutations(range(len(table)), count)


def random_table(source, columns, records):
    """The last column tells all records apart, and no value is far from another one."""
    most = source.choice((1, 2, 5))
    return tuple(tuple(source.randint(-most, most) for _ in range(columns)) + (place,) for place in range(records))


def random_command(source, columns, sizes, depth):
    word = source.choice(("up", "down", "up", "down", "reverse", "restore", "first", "last", "repeat"))
    if word in ("up", "down"):
        return (word, source.randrange(columns))
    if word in ("first", "last"):
        return (word, source.choice(sizes))
    if word == "repeat" and depth < 4:
        return (word, source.randint(1, 5), random_program(source, columns, sizes, depth + 1))
    return ("reverse",) if word == "repeat" else (word,)


def random_program(source, columns, sizes, depth=1):
    return tuple(random_command(source, columns, sizes, depth) for _ in range(source.randint(0, 4)))


def random_programs(seed, count, columns=3, sizes=tuple(range(2, 30))):
    source = random.Random(seed)
    return [random_program(source, columns, sizes) for _ in range(count)]


@contextlib.contextmanager
def few_steps(most=300000):
    """Fail, instead of running on and on, if more rows of code than this are executed."""
    done = 0

    def watch(frame, event, argument):
        nonlocal done
        done += event == "line"
        if done > most:
            raise AssertionError("too many steps")
        return watch

    before = sys.gettrace()
    sys.settrace(watch)
    try:
        yield
    finally:
        sys.settrace(before)
