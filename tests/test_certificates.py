import itertools
import random
import unittest

from sortcuts.certificates import program_certificate, way_certificate
from sortcuts.checker import check
from sortcuts.comparing import same
from sortcuts.errors import InvalidPlaces, InvalidProgram, InvalidTable, TableError
from sortcuts.reach import way_to
from tests.checker_reference import expected_check
from tests.checks import ErrorCase
from tests.program_samples import FAR, PROGRAMS, REVERSE, WRONG_PROGRAMS, repeat
from tests.reference import every_sequence, expected_places, expected_ways, few_steps, random_program, random_programs
from tests.samples import WRONG_PLACES, WRONG_TABLES
from tests.table_samples import SMALL, THIRTY

THREE = ((1,), (2,), (3,))


class CertificateCase(unittest.TestCase):
    def assert_accepted(self, found):
        self.assertEqual([type(found), len(found)], [tuple, 2])
        claim, paper = found
        self.assertEqual([type(claim), len(claim)], [tuple, 3])
        self.assertIs(check(claim, paper), True, found)
        return claim, paper


class ProgramCertificateTest(CertificateCase):
    def test_example(self):
        claim, paper = program_certificate((("up", 0), REVERSE), (("down", 0),))
        self.assertEqual([claim[0], check(claim, paper)], ["different", True])
        self.assertIsNone(program_certificate((REVERSE, REVERSE), ())[1])

    def assert_certificate(self, program, other):
        claim, paper = self.assert_accepted(program_certificate(program, other))
        self.assertEqual(claim, ("same" if same(program, other) else "different", program, other))
        self.assertIs(paper is None, same(program, other))
        return claim, paper

    def test_all_pairs_of_programs(self):
        for program, other in itertools.product(PROGRAMS, PROGRAMS):
            self.assert_certificate(program, other)

    def test_random_programs(self):
        programs = random_programs(81, 90, columns=4, sizes=(2, 3, 4, 5, 28, 29))
        for program, other in itertools.combinations(programs, 2):
            claim, paper = self.assert_certificate(program, other)
            self.assertIs(expected_check(claim, paper), True)

    def test_far_repeats(self):
        with few_steps():
            self.assert_certificate((repeat(FAR, REVERSE),), (repeat(FAR - 1, REVERSE),))
            self.assert_certificate((repeat(FAR, REVERSE, ("first", 3)),), (("last", 3),))


class WayCertificateTest(CertificateCase):
    def test_example(self):
        claim, paper = way_certificate(THREE, (0, 2))
        self.assertEqual([claim, paper[0], check(claim, paper)], [("no way", THREE, (0, 2)), "stuck", True])

    def assert_certificate(self, table, places):
        claim, paper = self.assert_accepted(way_certificate(table, places))
        program = way_to(table, places)
        self.assertEqual(claim, ("no way" if program is None else "way", table, places))
        self.assertEqual(program is None, paper[:1] in (("stuck",), ("groups",)))
        return claim, paper

    def test_both_papers_and_a_way(self):
        self.assertEqual(way_certificate(THREE, (0, 2, 1))[1][0], "groups")
        self.assertEqual(way_certificate(THREE, (0, 2))[1][0], "stuck")
        self.assertEqual(way_certificate(THREE, (2, 1))[0][0], "way")
        # Neither can these records be left alone, nor do they stand in such a sequence.
        self.assert_certificate(((1,), (2,), (3,), (4,), (5,)), (0, 4, 2))

    def test_small_tables_for_all_places_in_all_sequences(self):
        for table in SMALL:
            ways = expected_ways(table)
            for places in every_sequence(table):
                claim, paper = self.assert_certificate(table, places)
                self.assertEqual(claim[0] == "way", places in ways)
                self.assertIs(expected_check(claim, paper), True, (claim, paper))

    def test_tables_of_thirty_records(self):
        source = random.Random(82)
        for table in THIRTY:
            for _ in range(12):
                places = tuple(source.sample(range(30), source.randint(2, 30)))
                self.assert_certificate(table, places)
                self.assert_certificate(table, tuple(sorted(places)))
                columns = min(4, len(table[0]))
                program = sum((random_program(source, columns, range(2, 30)) for _ in range(3)), ())
                claim, paper = self.assert_certificate(table, expected_places(table, program))
                self.assertEqual(claim[0], "way")

    def test_tables_of_other_numbers_of_records(self):
        source = random.Random(83)
        for records in range(2, 30):
            for values in ((0, 1), range(9)):
                table = tuple(tuple(source.choice(values) for _ in range(3)) for _ in range(records))
                for _ in range(6):
                    self.assert_certificate(table, tuple(sorted(source.sample(range(records), source.randint(2, records)))))

    def test_records_that_are_all_equal(self):
        for records in (3, 30):
            table = ((4, 4),) * records
            self.assertEqual(self.assert_certificate(table, (0, 1))[0][0], "way")
            self.assertEqual(self.assert_certificate(table, (0, 2))[0][0], "no way")
            self.assertEqual(self.assert_certificate(table, (1, 0, 2))[0][0], "no way")

    def test_five_columns(self):
        table = ((0, 0, 0, 0, 1), (0, 0, 0, 0, 9), (0, 0, 0, 0, 2))
        self.assertEqual(self.assert_certificate(table, (0, 2))[0][0], "no way")
        table = ((0, 0, 0, 1, 0), (0, 0, 0, 9, 0), (0, 0, 0, 2, 0))
        self.assertEqual(self.assert_certificate(table, (0, 2))[0][0], "way")


class CertificateErrorsTest(ErrorCase):
    def test_wrong_programs(self):
        for value, index in WRONG_PROGRAMS:
            self.assert_error(InvalidProgram, "index", index, program_certificate, value, (None, None))
            self.assert_error(InvalidProgram, "index", index, program_certificate, (REVERSE,), value)
            self.assert_error(InvalidProgram, "index", index, program_certificate, other=value, program=())

    def test_wrong_tables_and_places(self):
        for value, index in WRONG_TABLES:
            for places in ((0, 1), None, (0, 0)):
                self.assert_error(InvalidTable, "index", index, way_certificate, value, places)
                self.assert_error(InvalidTable, "index", index, way_certificate, places=places, table=value)
        for value, index in WRONG_PLACES:
            self.assert_error(InvalidPlaces, "index", index, way_certificate, THREE, value)
            self.assert_error(InvalidPlaces, "index", index, way_certificate, places=value, table=THREE)

    def test_true_and_false_after_an_equal_call(self):
        for _ in range(2):
            way_certificate(((1,), (0,)), (1, 0))
            self.assert_error(InvalidPlaces, "index", 0, way_certificate, ((1,), (0,)), (True, 0))
            self.assert_error(InvalidTable, "index", 0, way_certificate, ((True,), (0,)), (1, 0))
            program_certificate((("up", 1),), ())
            self.assert_error(InvalidProgram, "index", 0, program_certificate, (("up", True),), ())

    def test_base_class(self):
        for call in (lambda: program_certificate((), []), lambda: way_certificate(THREE, [0, 1])):
            with self.assertRaises(TableError):
                call()

    def test_by_name_and_equal_calls(self):
        program, other = (("up", 0), ("first", 3)), (("up", 0), ("first", 4))
        self.assertEqual(program_certificate(other=other, program=program), program_certificate(program, other))
        for places in ((2, 1), (0, 2), (0, 2, 1)):
            self.assertEqual(way_certificate(places=places, table=THREE), way_certificate(THREE, places))


if __name__ == "__main__":
    unittest.main()
