import ast
import itertools
import pathlib
import unittest

from sortcuts import checker
from sortcuts.checker import check
from tests.checker_reference import expected_check, variants
from tests.checks import NEVER_VALID, Odd
from tests.program_samples import FAR, PROGRAMS, REVERSE, WRONG_PROGRAMS, nest, repeat
from tests.reference import every_sequence, expected_ways, few_steps
from tests.samples import WRONG_PLACES, WRONG_TABLES
from tests.table_samples import SMALL, every_table

THREE = ((1,), (2,), (3,))
FOUR = ((1,), (2,), (3,), (4,))
FIVE = ((1,), (2,), (3,), (4,), (5,))
# Column 0 is level; only column 1 tells that the record at place 1 lies inside.
LEVEL = ((7, 1), (7, 5), (7, 9), (7, 5))
# In the groups (0, 1) and (3, 2) column 0 is level, and column 1 rises in the one and falls in the other.
TWO_GROUPS = ((0, 0), (0, 1), (1, 0), (1, 1), (2, 0))

# A right paper for each form of a claim.
RIGHT = (
    (("same", (REVERSE, ("first", 3), REVERSE), (("last", 3),)), None),
    (("same", (), ()), None),
    (("same", (repeat(FAR, ("up", 1)),), (("up", 1),)), None),
    (("different", (("up", 1), REVERSE), (("down", 1),)), ((0, 1, 0), (0, 1, 1))),
    (("different", (("first", 2),), (repeat(2, ("last", 2)),)), ((1,), (2,), (3,))),
    (("way", THREE, (2, 1)), (("last", 2), REVERSE)),
    (("way", THREE, (0, 1, 2)), (repeat(2, REVERSE), ("up", 0))),
    (("no way", THREE, (0, 2)), ("stuck", (0, 1, 2), ((0, 1, 2),))),
    (("no way", FIVE, (1, 3)), ("stuck", (1, 2, 3), ((1, 2, 3),))),
    (("no way", FIVE, (4, 0)), ("stuck", (0, 1, 2, 3, 4), ((0, 1, 4), (0, 1, 2, 4), (1, 3, 4)))),
    (("no way", LEVEL, (2, 0)), ("stuck", (0, 1, 2), ((0, 1, 2),))),
    (("no way", THREE, (0, 2, 1)), ("groups", ((0, 2, 1),))),
    (("no way", TWO_GROUPS, (0, 1, 3, 2)), ("groups", ((0, 1), (3, 2)))),
)


class ExamplesTest(unittest.TestCase):
    def test_examples(self):
        table = ((1,), (2,), (3,))
        self.assertIs(check(("way", table, (2, 1)), (("last", 2), REVERSE)), True)
        self.assertIs(check(("no way", table, (0, 2)), ("stuck", (0, 1, 2), ((0, 1, 2),))), True)
        self.assertIs(check(("no way", table, (0, 2, 1)), ("groups", ((0, 2, 1),))), True)


class CheckerCase(unittest.TestCase):
    def accept(self, claim, paper):
        self.assertIs(check(claim, paper), True, (claim, paper))
        self.assertIs(expected_check(claim, paper), True, (claim, paper))

    def reject(self, claim, paper):
        self.assertIs(check(claim, paper), False, (claim, paper))
        self.assertIs(expected_check(claim, paper), False, (claim, paper))


class FormsTest(CheckerCase):
    def test_right_papers(self):
        for claim, paper in RIGHT:
            self.accept(claim, paper)
            self.assertIs(check(paper=paper, claim=claim), True)

    def test_right_papers_of_other_claims(self):
        for (claim, right), (other, paper) in itertools.permutations(RIGHT, 2):
            self.assertIs(check(claim, paper), expected_check(claim, paper), (claim, paper))

    def test_each_single_part_changed(self):
        accepted = 0
        for claim, paper in RIGHT:
            for other in variants(claim):
                found = check(other, paper)
                self.assertIs(found, expected_check(other, paper), (other, paper))
                accepted += found
            for other in variants(paper):
                found = check(claim, other)
                self.assertIs(found, expected_check(claim, other), (claim, other))
                accepted += found
        # Some changes leave a right paper, so the comparison says something of both answers.
        self.assertGreater(accepted, 20)

    def test_lists_in_place_of_tuples(self):
        def lists(value):
            if isinstance(value, tuple):
                yield list(value)
                for at, part in enumerate(value):
                    for other in lists(part):
                        yield value[:at] + (other,) + value[at + 1:]

        for claim, paper in RIGHT:
            for other in lists(claim):
                self.reject(other, paper)
            for other in lists(paper):
                self.reject(claim, other)

    def test_true_and_false_in_place_of_1_and_0(self):
        def truths(value):
            if type(value) is int and value in (0, 1):
                yield bool(value)
            if isinstance(value, tuple):
                for at, part in enumerate(value):
                    for other in truths(part):
                        yield value[:at] + (other,) + value[at + 1:]

        for claim, paper in RIGHT:
            for other in truths(claim):
                self.accept(claim, paper)
                self.reject(other, paper)
            for other in truths(paper):
                self.accept(claim, paper)
                self.reject(claim, other)

    def test_any_values(self):
        words = ("same", "different", "way", "no way", "", "Same", "no  way", "noway", None, True, 0, b"way", ("way",))
        values = NEVER_VALID + (1, THREE, (0, 1), (0, 2), (REVERSE,), ("stuck",), ("groups",), ("stuck", (), ()))
        for claim, paper in itertools.product(values, values):
            self.assertIs(check(claim, paper), False)
        for word, first in itertools.product(words, values):
            for second, paper in zip(values, values[::-1]):
                self.assertIs(type(check((word, first, second), paper)), bool)
            self.assertIs(check((word,), first), False)
            self.assertIs(check((word, first), first), False)
            self.assertIs(check((word, first, first, first), first), False)
            self.assertIs(check([word, first, first], first), False)

    def test_values_that_claim_to_be_equal(self):
        for claim, paper in RIGHT:
            for at in range(3):
                self.assertIs(check(claim[:at] + (Odd(),) + claim[at + 1:], paper), False)
            self.assertIs(check(claim, Odd()), False)
            if paper is not None:
                for at in range(len(paper)):
                    self.assertIs(check(claim, paper[:at] + (Odd(),) + paper[at + 1:]), False)

    def test_values_nested_fifteen_levels_deep(self):
        deep = 0
        for _ in range(15):
            deep = (deep,)
        for claim, paper in RIGHT:
            for value in (deep, list(deep)):
                for at in range(3):
                    self.assertIs(check(claim[:at] + (value,) + claim[at + 1:], paper), False)
                self.assertIs(check(claim, value), False)

    def test_nothing_is_modified(self):
        claim, paper = ["same", (), ()], [[0, 1]]
        self.assertIs(check(claim, paper), False)
        self.assertEqual([claim, paper], [["same", (), ()], [[0, 1]]])


class SameAndDifferentTest(CheckerCase):
    def test_same_takes_no_paper(self):
        for paper in (False, True, 0, "", (), ((1,),), [], (None,)):
            self.reject(("same", (), ()), paper)

    def test_programs_with_and_without_the_same_effect(self):
        small = [program for program in PROGRAMS if len(program) < 10]
        for program, other in itertools.product(small, small):
            self.assertIs(check(("same", program, other), None), expected_check(("same", program, other), None))

    def test_wrong_programs(self):
        for value, index in WRONG_PROGRAMS:
            for claim in (("same", value, ()), ("same", (), value), ("same", value, value)):
                self.reject(claim, None)
            for claim in (("different", value, ()), ("different", (), value)):
                self.reject(claim, ((1, 2, 3, 4), (4, 3, 2, 1)))
            self.reject(("way", THREE, (0, 1, 2)), value)

    def test_programs_just_within_the_limits_and_just_beyond(self):
        for inner, accepted in ((nest(4, REVERSE, REVERSE), True), (nest(5, REVERSE, REVERSE), False)):
            self.assertIs(check(("same", inner, ()), None), accepted)
        self.accept(("same", (REVERSE,) * 400, ()), None)
        self.reject(("same", (REVERSE,) * 402, ()), None)
        self.accept(("same", (repeat(FAR, REVERSE),), ()), None)
        self.reject(("same", (repeat(FAR + 2, REVERSE),), ()), None)
        for size, accepted in ((2, True), (29, True), (1, False), (30, False)):
            self.assertIs(check(("same", (("first", size),), (("first", size),)), None), accepted)
        for column, accepted in ((3, True), (4, False), (-1, False)):
            self.assertIs(check(("same", (("up", column),), (("up", column),)), None), accepted)

    def test_the_table_has_the_columns_of_both(self):
        claim = ("different", (("up", 2), ("restore",)), (REVERSE,))
        self.reject(claim, ((1, 2), (3, 4)))
        self.accept(claim, ((1, 2, 0), (3, 4, 0)))
        claim = ("different", (REVERSE,), (("up", 2), ("restore",)))
        self.reject(claim, ((1, 2), (3, 4)))
        self.accept(claim, ((1, 2, 0), (3, 4, 0)))

    def test_a_table_that_does_not_tell_them_apart(self):
        claim = ("different", (REVERSE,), ())
        for table in (((1,),), ((1,), (1,)), ((1,), (2,), (1,))):
            self.reject(claim, table)
        self.accept(claim, ((1,), (2,)))
        self.reject(("different", (), ()), ((1,), (2,)))

    def test_tables_just_within_the_limits_and_just_beyond(self):
        rising = tuple((place,) for place in range(31))
        self.accept(("different", (("first", 29),), ()), rising[:30])
        self.reject(("different", (("first", 29),), ()), rising)
        self.accept(("different", (REVERSE,), ()), ((1, 2, 3, 4, 5), (1, 2, 3, 4, 6)))
        self.reject(("different", (REVERSE,), ()), ((1, 2, 3, 4, 5, 6), (1, 2, 3, 4, 5, 7)))
        for value, index in WRONG_TABLES:
            self.reject(("different", (REVERSE,), ()), value)

    def test_far_repeats(self):
        with few_steps():
            self.assertIs(check(("same", (repeat(FAR, repeat(FAR, REVERSE)),), ()), None), True)
            self.assertIs(check(("different", (repeat(FAR - 1, REVERSE),), ()), ((1,), (2,))), True)
            self.assertIs(check(("way", THREE, (2, 1, 0)), (repeat(FAR - 1, repeat(FAR - 1, REVERSE)),)), True)


class WayTest(CheckerCase):
    def test_programs_that_lead_elsewhere(self):
        for program in ((("last", 2),), (("first", 2), REVERSE), (REVERSE,), (), (("up", 1), ("last", 2), REVERSE)):
            self.reject(("way", THREE, (2, 1)), program)
        self.reject(("way", THREE, (2, 1)), None)

    def test_wrong_tables_and_places(self):
        for value, index in WRONG_TABLES:
            self.reject(("way", value, (0, 1)), ())
            self.reject(("no way", value, (0, 2)), ("stuck", (0, 1, 2), ((0, 1, 2),)))
        for value, index in WRONG_PLACES:
            for paper in ((), (("first", 2),), (("first", 2), REVERSE), (REVERSE, ("first", 2)), (("last", 2), REVERSE)):
                self.assertIs(check(("way", THREE, value), paper), False)
            for paper in (("stuck", (0, 1, 2), ((0, 1, 2),)), ("stuck", (0, 1, 2), ()), ("groups", (value,)), ("groups", ())):
                self.assertIs(check(("no way", THREE, value), paper), False)

    def test_one_place_alone_is_not_claimed(self):
        self.reject(("way", ((1,),), (0,)), ())
        self.reject(("no way", THREE, (0,)), ("stuck", (0, 1, 2), ((0, 1, 2), (0, 2))))

    def test_thirty_records(self):
        table = tuple((place,) for place in range(30))
        self.accept(("way", table, tuple(range(30))), ())
        self.accept(("no way", table, (0, 29)), ("stuck", tuple(range(30)), (tuple(range(30)),) * 28))
        self.reject(("way", table + ((30,),), tuple(range(30))), (("first", 29),))


class StuckTest(CheckerCase):
    claim = ("no way", FIVE, (1, 3))

    def test_kept_places(self):
        group = ((1, 2, 3),)
        self.accept(self.claim, ("stuck", (1, 2, 3), group))
        for kept in ((), (1,), (1, 3), (2,), (1, 2), (2, 3), (3, 2, 1), (1, 3, 2), (2, 1, 3), (1, 2, 2, 3), (1, 1, 2, 3),
                     (1, 2, 3, 5), (-1, 1, 2, 3), (1, 2, 3, 4), (0, 1, 2, 3), [1, 2, 3], (True, 2, 3), None, 3, "123"):
            self.reject(self.claim, ("stuck", kept, group))
            self.reject(self.claim, ("stuck", kept, ()))

    def test_groups(self):
        kept = (0, 1, 2, 3)
        claim = ("no way", FIVE, (0, 3))
        self.accept(claim, ("stuck", kept, ((0, 1, 2), (1, 2, 3))))
        self.accept(claim, ("stuck", kept, (kept, kept)))
        self.accept(claim, ("stuck", kept, ((0, 1, 3), (0, 2, 3))))
        for groups in ((), ((0, 1, 2),), ((0, 1, 2), (1, 2, 3), (0, 1, 2)), ((1, 2, 3), (0, 1, 2)), ((0, 1, 2), ()),
                       ((), (1, 2, 3)), ((2, 1, 0), (1, 2, 3)), ((0, 1, 2), (3, 2, 1)), ((0, 1, 2), (1, 3)), ((1, 2), (1, 2, 3)),
                       ((0, 1), (1, 2, 3)), ((1,), (1, 2, 3)), ((0, 2, 3), (1, 2, 3)), ((0, 1, 1, 2), (1, 2, 3)),
                       ((0, 1, 4), (1, 2, 3)), ((0, 1, 5), (1, 2, 3)), ((-1, 1, 2), (1, 2, 3)), ([0, 1, 2], (1, 2, 3)),
                       [(0, 1, 2), (1, 2, 3)], ((False, 1, 2), (1, 2, 3)), ((0, True, 2), (1, 2, 3)), (None, (1, 2, 3)),
                       (1, 2), "ab", None, ((0, 1, 2), (1, 2, 3), ())):
            self.reject(claim, ("stuck", kept, groups))

    def test_the_word_and_the_number_of_parts(self):
        kept, groups = (1, 2, 3), ((1, 2, 3),)
        for paper in (("stuck", kept), ("stuck", kept, groups, None), ("stuck",), ("Stuck", kept, groups), (kept, groups),
                      ("groups", kept, groups), (("stuck",), kept, groups), ("stuck", groups, kept), (b"stuck", kept, groups),
                      ["stuck", kept, groups], "stuck", None, (), (None, kept, groups)):
            self.reject(self.claim, paper)

    def test_columns_that_are_level(self):
        paper = ("stuck", (0, 1, 2), ((0, 1, 2),))
        self.accept(("no way", ((5,), (5,), (5,)), (0, 2)), paper)
        self.accept(("no way", ((5, 1), (5, 2), (5, 3)), (0, 2)), paper)
        self.accept(("no way", ((1, 9), (2, 8), (3, 7)), (0, 2)), paper)
        # The value is one of the least or one of the greatest.
        for middle in (1, 3, 0, 4):
            self.reject(("no way", ((1,), (middle,), (3,)), (0, 2)), paper)
        self.reject(("no way", ((5, 1), (5, 1), (5, 3)), (0, 2)), paper)
        self.reject(("no way", ((1, 5), (2, 6), (3, 5)), (0, 2)), paper)
        self.reject(("no way", ((5,), (6,), (5,)), (0, 2)), paper)

    def test_a_smaller_group_where_the_greater_one_is_not_level(self):
        table = ((1,), (1,), (1,), (9,))
        self.reject(("no way", table, (0, 2, 3)), ("stuck", (0, 1, 2, 3), ((0, 1, 2, 3),)))
        self.accept(("no way", table, (0, 2, 3)), ("stuck", (0, 1, 2, 3), ((0, 1, 2),)))

    def test_a_fifth_column_plays_no_part(self):
        paper = ("stuck", (0, 1, 2), ((0, 1, 2),))
        self.accept(("no way", ((5, 5, 5, 5, 1), (5, 5, 5, 5, 9), (5, 5, 5, 5, 1)), (0, 2)), paper)
        self.reject(("no way", ((5, 5, 5, 1), (5, 5, 5, 9), (5, 5, 5, 1)), (0, 2)), paper)
        self.reject(("no way", ((5, 5, 5, 1, 5), (5, 5, 5, 9, 5), (5, 5, 5, 1, 5)), (0, 2)), paper)

    def test_all_papers_on_small_tables_are_true(self):
        for table in [*every_table(1, 3, (0, 1, 2)), *every_table(2, 3, (0, 1))]:
            ways = expected_ways(table)
            kinds = [chosen for count in range(4) for chosen in itertools.combinations(range(3), count)]
            for places, kept, group in itertools.product(every_sequence(table), kinds, kinds):
                paper = ("stuck", kept, (group,))
                found = check(("no way", table, places), paper)
                self.assertIs(found, expected_check(("no way", table, places), paper))
                if found:
                    self.assertNotIn(places, ways)


class GroupsTest(CheckerCase):
    claim = ("no way", FOUR, (0, 2, 1, 3))

    def test_groups(self):
        self.accept(self.claim, ("groups", ((0, 2, 1, 3),)))
        self.accept(self.claim, ("groups", ((0,), (2, 1, 3))))
        self.accept(self.claim, ("groups", ((0, 2, 1), (3,))))
        for groups in ((), ((0, 2, 1),), ((0, 2), (1, 3)), ((0,), (2, 1), (3,)), ((0, 2), (1,), (3,)), ((0,), (2,), (1,), (3,)),
                       ((0, 2, 1, 3), ()), ((), (0, 2, 1, 3)), ((0, 2, 1), (), (3,)), ((0, 2, 1, 3), (3,)), ((3, 1, 2, 0),),
                       ((2, 1, 3), (0,)), ((3,), (0, 2, 1)), ((0, 1, 2, 3),), ((0, 2, 1, 3), (0, 2, 1, 3)), ((0, 2, 1, 3, 3),),
                       ([0, 2, 1, 3],), [(0, 2, 1, 3)], ((0, 2, True, 3),), ((False, 2, 1, 3),), (0, 2, 1, 3), ((0, 2, 1, 4),),
                       None, "0213", (None,), ((None, 2, 1, 3),), ((0, 2, 1), 3), ((0, 2, -3, 3),)):
            self.reject(self.claim, ("groups", groups))

    def test_the_word_and_the_number_of_parts(self):
        groups = ((0, 2, 1, 3),)
        for paper in (("groups",), ("groups", groups, None), ("group", groups), ("stuck", groups), (groups,), groups,
                      (("groups",), groups), (b"groups", groups), ["groups", groups], "groups", ("groups", groups, groups)):
            self.reject(self.claim, paper)

    def test_columns_that_are_level(self):
        paper = ("groups", ((0, 2, 1),))
        self.accept(("no way", ((5,), (5,), (5,)), (0, 2, 1)), paper)
        self.accept(("no way", ((5, 5), (5, 6), (5, 7)), (0, 2, 1)), paper)
        # The value never falls, or never rises.
        self.reject(("no way", ((5, 5), (5, 6), (5, 6)), (0, 2, 1)), paper)
        self.reject(("no way", ((5, 7), (5, 6), (5, 7)), (0, 2, 1)), paper)
        self.reject(("no way", ((1, 9), (3, 5), (2, 8)), (0, 2, 1)), paper)

    def test_a_column_that_rises_in_one_group_and_falls_in_another(self):
        paper = ("groups", ((0, 1), (3, 2)))
        self.accept(("no way", TWO_GROUPS, (0, 1, 3, 2)), ("groups", ((0, 1), (3, 2))))
        # It rises in both groups.
        self.reject(("no way", ((0, 0), (0, 1), (1, 5), (1, 4)), (0, 1, 3, 2)), paper)
        self.accept(("no way", ((0, 0), (0, 1), (1, 4), (1, 5)), (0, 1, 3, 2)), paper)
        # What changes from one group to the next plays no part.
        self.accept(("no way", ((0,), (0,), (9,), (9,)), (0, 1, 3, 2)), paper)

    def test_places_that_go_one_way_only(self):
        level = ((5,),) * 4
        for groups in (((0, 1, 2, 3),), ((3, 2, 1, 0),), ((0, 1), (2, 3)), ((2, 3), (0, 1)), ((1, 0), (3, 2))):
            places = tuple(place for group in groups for place in group)
            self.reject(("no way", level, places), ("groups", groups))
        self.accept(("no way", level, (0, 1, 3, 2)), ("groups", ((0, 1), (3, 2))))

    def test_a_fifth_column_plays_no_part(self):
        paper = ("groups", ((0, 2, 1),))
        self.accept(("no way", ((5, 5, 5, 5, 1), (5, 5, 5, 5, 3), (5, 5, 5, 5, 2)), (0, 2, 1)), paper)
        self.reject(("no way", ((5, 5, 5, 1), (5, 5, 5, 3), (5, 5, 5, 2)), (0, 2, 1)), paper)
        self.reject(("no way", ((5, 5, 5, 1, 5), (5, 5, 5, 3, 5), (5, 5, 5, 2, 5)), (0, 2, 1)), paper)

    def test_all_ways_to_part_the_places_of_small_tables_are_true(self):
        for table in SMALL[::3]:
            ways = expected_ways(table)
            for places in every_sequence(table):
                for cuts in itertools.product((False, True), repeat=len(places) - 1):
                    groups = [places[:1]]
                    for place, cut in zip(places[1:], cuts):
                        groups = groups + [(place,)] if cut else groups[:-1] + [groups[-1] + (place,)]
                    paper = ("groups", tuple(groups))
                    found = check(("no way", table, places), paper)
                    self.assertIs(found, expected_check(("no way", table, places), paper))
                    if found:
                        self.assertNotIn(places, ways)


class ImportsTest(unittest.TestCase):
    def test_only_the_listed_modules(self):
        tree = ast.parse(pathlib.Path(checker.__file__).read_text(encoding="utf-8"))
        modules = {node.module for node in ast.walk(tree) if isinstance(node, ast.ImportFrom)}
        allowed = "limits errors tables orders programs running normal"
        self.assertLessEqual(modules, {f"sortcuts.{name}" for name in allowed.split()})


if __name__ == "__main__":
    unittest.main()
