"""The document's words about certificates, followed one by one, to hold the checker against."""

from sortcuts.programs import is_program
from sortcuts.tables import is_table
from tests.program_samples import FAR
from tests.reference import expected_normal_form, expected_places, expected_table


def is_whole(value):
    return type(value) is int


def columns_in(program):
    found = set()
    for command in program:
        if command[0] in ("up", "down"):
            found.add(command[1])
        elif command[0] == "repeat":
            found |= columns_in(command[2])
    return found


def near(program):
    """The same program with far repeats brought near: only whether their number is even plays a part."""
    return tuple(
        ("repeat", 2 + command[1] % 2, near(command[2])) if command[0] == "repeat" and command[1] > 3 else
        ("repeat", command[1], near(command[2])) if command[0] == "repeat" else command
        for command in program)


def fits(table, program):
    return is_table(table) and is_program(program) and all(column < len(table[0]) for column in columns_in(program))


def are_places(table, value):
    if not is_table(table) or type(value) is not tuple or len(value) < 2:
        return False
    return all(is_whole(place) and 0 <= place < len(table) for place in value) and len(set(value)) == len(value)


def is_ascending(table, value):
    if type(value) is not tuple or not all(is_whole(place) and 0 <= place < len(table) for place in value):
        return False
    return list(value) == sorted(set(value))


def holds(table, kept, place, group):
    if not is_ascending(table, group) or not set(group) <= set(kept):
        return False
    if place not in group or place in (group[0], group[-1]):
        return False
    for column in range(min(4, len(table[0]))):
        values = {table[other][column] for other in group}
        if len(values) > 1 and table[place][column] in (min(values), max(values)):
            return False
    return True


def expected_stuck(table, places, kept, groups):
    if not is_ascending(table, kept) or not set(places) < set(kept) or type(groups) is not tuple:
        return False
    others = sorted(set(kept) - set(places))
    return len(groups) == len(others) and all(holds(table, kept, *pair) for pair in zip(others, groups))


def expected_groups(table, places, groups):
    if type(groups) is not tuple or not all(type(group) is tuple and group for group in groups):
        return False
    listed = [place for group in groups for place in group]
    if not all(is_whole(place) for place in listed) or tuple(listed) != places:
        return False
    pairs = [(one, two) for group in groups for one, two in zip(group, group[1:])]
    for column in range(min(4, len(table[0]))):
        signs = {(table[two][column] > table[one][column]) - (table[two][column] < table[one][column]) for one, two in pairs}
        if signs - {0} not in (set(), {1, -1}):
            return False
    return {1 if two > one else -1 for one, two in pairs} == {1, -1}


def expected_no_way(table, places, paper):
    if type(paper) is not tuple or not paper or type(paper[0]) is not str:
        return False
    if paper[0] == "stuck" and len(paper) == 3:
        return expected_stuck(table, places, *paper[1:])
    return paper[0] == "groups" and len(paper) == 2 and expected_groups(table, places, paper[1])


def expected_check(claim, paper):
    if type(claim) is not tuple or len(claim) != 3 or type(claim[0]) is not str:
        return False
    word, first, second = claim
    if word == "same":
        programs = is_program(first) and is_program(second) and paper is None
        return programs and expected_normal_form(near(first)) == expected_normal_form(near(second))
    if word == "different":
        programs = fits(paper, first) and fits(paper, second)
        return programs and expected_table(paper, near(first)) != expected_table(paper, near(second))
    if word == "way":
        return are_places(first, second) and fits(first, paper) and expected_places(first, near(paper)) == second
    return word == "no way" and are_places(first, second) and expected_no_way(first, second, paper)


ALIENS = (None, True, False, 0, 1, -1, 2, 30, FAR, "", "same", "up", b"x", (), (0,), ((),), ((0, 1),), [], {}, ("up", 0))


def variants(value):
    """The value with each single part left out, put in, doubled, exchanged, or replaced by another value."""
    yield from ALIENS
    if type(value) is int:
        yield from (value + 1, value - 1, -value, str(value), (value,), [value], bool(value))
    if type(value) is str:
        yield from (value + " ", value.upper(), value[:-1], value.encode(), (value,), [value])
    if type(value) is tuple:
        yield from (list(value), value[::-1], value + value, (value,), frozenset(range(len(value))))
        for at, part in enumerate(value):
            before, behind = value[:at], value[at + 1:]
            yield before + behind
            yield before + (part, part) + behind
            if behind:
                yield before + (behind[0], part) + behind[1:]
            for alien in (None, 0, (), True):
                yield before + (alien, part) + behind
            for other in variants(part):
                yield before + (other,) + behind
        for alien in (None, 0, (), True, ((),)):
            yield value + (alien,)
