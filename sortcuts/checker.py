"""The checker: accepts or rejects certificates, no matter who wrote them.

It imports nothing that finds an answer, only what is needed to follow one.
"""

from sortcuts.errors import FindError, TableError
from sortcuts.normal import normal_form
from sortcuts.orders import is_word
from sortcuts.running import run, run_places
from sortcuts.tables import (
    check_places, check_table, every_place, is_place, sort_columns, steps_within, values_in)


def check(claim, paper):
    try:
        return is_certified(claim, paper)
    except (TableError, FindError):
        # A part of the claim or the paper is not of its form.
        return False


def is_certified(claim, paper):
    """Return True if the paper is a certificate; return False or raise an error if it is not."""
    if not isinstance(claim, tuple) or len(claim) != 3:
        return False
    word, first, second = claim
    if is_word(word, ("same",)):
        return paper is None and normal_form(first) == normal_form(second)
    if is_word(word, ("different",)):
        return run(paper, first) != run(paper, second)
    if is_word(word, ("way", "no way")):
        check_table(first)
        check_places(first, second)
        return run_places(first, paper) == second if word == "way" else rules_out(first, second, paper)
    return False


def rules_out(table, places, paper):
    """Return True if the paper shows that no program leads from the table to these places."""
    if not isinstance(paper, tuple) or len(paper) == 0:
        return False
    if is_word(paper[0], ("stuck",)) and len(paper) == 3:
        return is_stuck(table, places, paper[1], paper[2])
    if is_word(paper[0], ("groups",)) and len(paper) == 2:
        return is_out_of_order(table, places, paper[1])
    return False


def are_ascending_places(table, value):
    if not isinstance(value, tuple) or not all([is_place(table, place) for place in value]):
        return False
    return all([before < after for before, after in zip(value, value[1:])])


def is_stuck(table, places, kept, groups):
    """Return True if, as long as all kept places are there, none but those in `places` can be cut off."""
    if not are_ascending_places(table, kept) or not all([place in kept for place in places]):
        return False
    others = [place for place in kept if place not in places]
    if len(others) == 0 or not isinstance(groups, tuple) or len(groups) != len(others):
        return False
    return all([is_held(table, kept, place, group) for place, group in zip(others, groups)])


def is_held(table, kept, place, group):
    """Return True if the group keeps the place from being the last one of the kept places in any order."""
    if not are_ascending_places(table, group) or not all([other in kept for other in group]):
        return False
    if place not in group[1:-1]:
        return False
    return all([is_level_or_inside(table, column, place, group) for column in sort_columns(table)])


def is_level_or_inside(table, column, place, group):
    values = [table[other][column] for other in group]
    return min(values) == max(values) or min(values) < table[place][column] < max(values)


def is_out_of_order(table, places, groups):
    """Return True if no order has the records at the places in this sequence."""
    if not isinstance(groups, tuple) or not all([is_group(table, group) for group in groups]):
        return False
    if [place for group in groups for place in group] != list(places):
        return False
    for column in sort_columns(table):
        steps = steps_within(groups, values_in(table, column))
        if any(steps) and not goes_both_ways(steps):
            return False
    return goes_both_ways(steps_within(groups, every_place(table)))


def is_group(table, value):
    return isinstance(value, tuple) and len(value) > 0 and all([is_place(table, place) for place in value])


def goes_both_ways(steps):
    return any([step > 0 for step in steps]) and any([step < 0 for step in steps])
