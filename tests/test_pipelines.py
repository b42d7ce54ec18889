import itertools
import unittest

from sortcuts.errors import (
    InvalidLimit, InvalidProgram, InvalidTable, InvalidText, LimitError, MissingColumn, TableError, TooManyRecords)
from sortcuts.pipelines import CountedLimitedPipeline, CountedPipeline, LimitedPipeline, Pipeline, assign
from sortcuts.running import each_table, run
from tests.checks import NEVER_VALID, ErrorCase, Odd
from tests.program_samples import FAR, PROGRAMS, REVERSE, WRONG_COMMANDS, WRONG_PROGRAMS, repeat
from tests.reference import few_steps
from tests.samples import WRONG_TABLES

TABLE = ((3, 1), (1, 2), (3, 0), (2, 2))
CLASSES = (Pipeline, CountedPipeline, LimitedPipeline, CountedLimitedPipeline)
COUNTED = (CountedPipeline, CountedLimitedPipeline)
LIMITED = (LimitedPipeline, CountedLimitedPipeline)
WRONG_LIMITS = (0, 31, -1, 10 ** 39, -(10 ** 39), True, False, "9", (9,), [9], b"9", {}, (), Odd(), None)


def table_of(records):
    return tuple((place,) for place in range(records))


def state(pipeline):
    """All that a pipeline tells of itself."""
    found = [pipeline.commands, len(pipeline), str(pipeline), repr(pipeline), pipeline.describe()]
    if isinstance(pipeline, COUNTED):
        found.append(pipeline.runs)
    if isinstance(pipeline, LIMITED):
        found.append(pipeline.limit)
    return found


def set_commands(pipeline, value):
    pipeline.commands = value


def set_limit(pipeline, value):
    pipeline.limit = value


def list_tables(pipeline, table):
    return list(pipeline.each_table(table))


class ExamplesTest(ErrorCase):
    def test_assign(self):
        pipeline = LimitedPipeline(REVERSE)
        self.assertIsNone(assign(pipeline, commands=(("up", 0),), limit=9))
        self.assertEqual([pipeline.commands, pipeline.limit], [(("up", 0),), 9])

    def test_run(self):
        pipeline = Pipeline(("up", 0), ("first", 3))
        self.assertEqual(pipeline.run(TABLE), ((1, 2), (2, 2), (3, 1)))
        self.assertEqual([len(pipeline), str(pipeline), len(list_tables(pipeline, TABLE))], [2, "up:0 first:3", 2])

    def test_parse_and_then(self):
        pipeline = Pipeline.parse("reverse first:3 reverse")
        self.assertIs(pipeline == Pipeline(("last", 3)), True)
        self.assertEqual(
            pipeline.then(("up", 0), ("first", 9)).commands, (REVERSE, ("first", 3), REVERSE, ("up", 0), ("first", 9)))
        self.assertIs(Pipeline.is_command(("first", 30)), False)

    def test_errors(self):
        self.assert_error(InvalidProgram, "index", 1, Pipeline, ("up", 0), ("up", 7))
        pipeline = LimitedPipeline(REVERSE)
        pipeline.limit = 1
        self.assert_error(TooManyRecords, "count", 2, pipeline.run, ((1,), (2,)))

    def test_counted_and_limited(self):
        pipeline = CountedLimitedPipeline(REVERSE)
        pipeline.run(TABLE)
        pipeline.limit = 3
        self.assertEqual(
            [pipeline.describe(), pipeline.runs, pipeline.limit, CountedLimitedPipeline.MOST],
            ["counted limited pipeline", 1, 3, 400])


class FamilyTest(unittest.TestCase):
    def test_base_classes(self):
        self.assertEqual(Pipeline.__bases__, (object,))
        self.assertEqual(CountedPipeline.__bases__, (Pipeline,))
        self.assertEqual(LimitedPipeline.__bases__, (Pipeline,))
        self.assertEqual(CountedLimitedPipeline.__bases__, (CountedPipeline, LimitedPipeline))

    def test_listed_methods_stand_in_the_class_itself(self):
        listed = {
            Pipeline: "MOST is_command parse commands run each_table then describe __eq__ __len__ __str__ __repr__",
            CountedPipeline: "runs run describe",
            LimitedPipeline: "limit run describe",
            CountedLimitedPipeline: "runs limit run describe",
        }
        for kind, names in listed.items():
            self.assertLessEqual(set(names.split()), set(vars(kind)), kind)
        self.assertIsInstance(vars(Pipeline)["is_command"], staticmethod)
        self.assertIsInstance(vars(Pipeline)["parse"], classmethod)
        for kind, name in ((Pipeline, "commands"), (CountedPipeline, "runs"), (LimitedPipeline, "limit")):
            self.assertIsInstance(vars(kind)[name], property)

    def test_class_values_and_descriptions(self):
        words = ("pipeline", "counted pipeline", "limited pipeline", "counted limited pipeline")
        for kind, word in zip(CLASSES, words):
            self.assertEqual([kind.MOST, kind().MOST, kind().describe(), kind(REVERSE).describe()], [400, 400, word, word])

    def test_what_a_class_does_not_have(self):
        for kind in (Pipeline, LimitedPipeline):
            self.assertFalse(hasattr(kind(), "runs"))
        for kind in (Pipeline, CountedPipeline):
            self.assertFalse(hasattr(kind(), "limit"))


class PipelineTest(ErrorCase):
    def test_commands(self):
        for kind in CLASSES:
            for program in PROGRAMS:
                pipeline = kind(*program)
                self.assertEqual(pipeline.commands, program)
                self.assertIs(type(pipeline.commands), tuple)
                self.assertEqual(len(pipeline), len(program))

    def test_inner_commands_are_not_counted(self):
        for kind in CLASSES:
            pipeline = kind(("up", 0), repeat(FAR, REVERSE, ("up", 1), repeat(2, REVERSE)), REVERSE)
            self.assertEqual([len(pipeline), len(kind()), len(kind(repeat(2)))], [3, 0, 1])

    def test_str_and_repr(self):
        for kind in CLASSES:
            self.assertEqual([str(kind()), repr(kind())], ["", "Pipeline(0)"])
            pipeline = kind(("up", 0), repeat(20, REVERSE, ("last", 3)))
            self.assertEqual([str(pipeline), repr(pipeline)], ["up:0 ( reverse last:3 )x20", "Pipeline(2)"])

    def test_wrong_commands(self):
        for kind in CLASSES:
            for value in WRONG_COMMANDS:
                self.assert_error(InvalidProgram, "index", 0, kind, value)
                self.assert_error(InvalidProgram, "index", 1, kind, REVERSE, value)
            for value, index in WRONG_PROGRAMS:
                if isinstance(value, tuple):
                    self.assert_error(InvalidProgram, "index", index, kind, *value)

    def test_is_command(self):
        for kind in CLASSES:
            for program in PROGRAMS:
                for command in program[:5]:
                    self.assertIs(kind.is_command(command), True)
            for value in WRONG_COMMANDS + NEVER_VALID:
                self.assertIs(kind.is_command(value), False, repr(value))
            self.assertIs(kind.is_command(repeat(2, *(REVERSE,) * 399)), True)
            self.assertIs(kind.is_command(repeat(2, *(REVERSE,) * 400)), False)
            self.assertIs(kind().is_command(value=("up", 3)), True)
            self.assertIs(kind.is_command(("up", 1)), True)
            self.assertIs(kind.is_command(("up", True)), False)

    def test_parse(self):
        for kind in CLASSES:
            for text, program in (("", ()), ("reverse", (REVERSE,)), ("down:1 ( )x2", (("down", 1), repeat(2)))):
                for pipeline in (kind.parse(text), kind.parse(text=text), kind(("up", 3)).parse(text)):
                    self.assertIs(type(pipeline), kind)
                    self.assertEqual([pipeline.commands, str(pipeline)], [program, text])

    def test_parse_of_wrong_texts(self):
        for kind in CLASSES:
            for text in ("up:00", " ", "up:0 ", "up:4", "first:1", "( )", "reverse " * 400 + "reverse", "Reverse"):
                self.assert_error(InvalidText, "text", text, kind.parse, text)
            for value in (None, True, 0, (), b"", ("reverse",)):
                self.assert_error(InvalidText, "text", value, kind.parse, value)

    def test_run_and_each_table(self):
        for kind in CLASSES:
            for program in ((), (("up", 0),), (("up", 0), ("first", 3), ("up", 1)), (repeat(FAR, REVERSE, ("last", 3)),)):
                with few_steps():
                    pipeline = kind(*program)
                    self.assertEqual(pipeline.run(TABLE), run(TABLE, program))
                    self.assertEqual(pipeline.run(table=TABLE), run(TABLE, program))
                    self.assertEqual(list_tables(pipeline, TABLE), list(each_table(TABLE, program)))
                    self.assertEqual(list(pipeline.each_table(table=TABLE)), list(each_table(TABLE, program)))

    def test_errors_of_a_run(self):
        for kind in CLASSES:
            pipeline = kind(("up", 3), ("down", 2), REVERSE)
            before = state(pipeline)
            for function in (pipeline.run, lambda table: list_tables(pipeline, table)):
                for value, index in WRONG_TABLES:
                    self.assert_error(InvalidTable, "index", index, function, value)
                self.assert_error(MissingColumn, "column", 2, function, TABLE)
                self.assert_error(MissingColumn, "column", 3, function, ((1, 2, 3),))
            self.assertEqual(state(pipeline), before)

    def test_errors_of_each_table_are_raised_when_the_iteration_begins(self):
        for kind in CLASSES:
            for pipeline, table, error in ((kind(), (), InvalidTable), (kind(REVERSE, ("up", 2)), TABLE, MissingColumn)):
                found = pipeline.each_table(table)
                with self.assertRaises(error):
                    next(iter(found))

    def test_then(self):
        for kind in CLASSES:
            pipeline = kind(("up", 0))
            before = state(pipeline)
            longer = pipeline.then(REVERSE, ("first", 2))
            self.assertIs(type(longer), kind)
            self.assertEqual(longer.commands, (("up", 0), REVERSE, ("first", 2)))
            same = pipeline.then()
            self.assertIs(type(same), kind)
            self.assertIsNot(same, pipeline)
            self.assertEqual(same.commands, (("up", 0),))
            same.commands = ()
            self.assertEqual(state(pipeline), before)

    def test_then_with_399_and_400_commands(self):
        for kind in CLASSES:
            pipeline = kind(*(REVERSE,) * 399)
            self.assertEqual(len(pipeline.then(("up", 0))), 400)
            self.assert_error(InvalidProgram, "index", 400, pipeline.then, ("up", 0), ("up", 1))
            self.assert_error(InvalidProgram, "index", 399, pipeline.then, repeat(2, REVERSE))
            self.assert_error(InvalidProgram, "index", 399, pipeline.then, None, ("up", 1))
            full = kind(*(REVERSE,) * 400)
            self.assertEqual(len(full.then()), 400)
            self.assert_error(InvalidProgram, "index", 400, full.then, REVERSE)
            self.assert_error(InvalidProgram, "index", 400, full.then, None)
            self.assertEqual([len(pipeline), len(full)], [399, 400])

    def test_then_with_wrong_commands(self):
        for kind in CLASSES:
            pipeline = kind(("up", 0), REVERSE)
            before = state(pipeline)
            for value in WRONG_COMMANDS:
                self.assert_error(InvalidProgram, "index", 2, pipeline.then, value)
                self.assert_error(InvalidProgram, "index", 3, pipeline.then, REVERSE, value)
            self.assertEqual(state(pipeline), before)

    def test_assigned_commands(self):
        for kind in CLASSES:
            pipeline = kind(REVERSE)
            pipeline.run(TABLE)
            for program in PROGRAMS:
                pipeline.commands = program
                self.assertEqual([pipeline.commands, len(pipeline)], [program, len(program)])
            pipeline.commands = (("down", 0),)
            self.assertEqual(pipeline.run(TABLE), ((3, 1), (3, 0), (2, 2), (1, 2)))

    def test_refused_commands(self):
        for kind in CLASSES:
            pipeline = kind(("up", 1))
            pipeline.run(TABLE)
            before = state(pipeline)
            for value, index in WRONG_PROGRAMS:
                self.assert_error(InvalidProgram, "index", index, set_commands, pipeline, value)
                self.assertEqual(state(pipeline), before)

    def test_two_pipelines_do_not_change_each_other(self):
        for kind in CLASSES:
            one, two = kind(REVERSE), kind(REVERSE)
            one.run(TABLE)
            one.commands = ()
            if kind in LIMITED:
                one.limit = 2
            self.assertEqual(state(two), state(kind(REVERSE)))


class EqualityTest(unittest.TestCase):
    def assert_equal(self, one, two, wanted):
        for left, right in ((one, two), (two, one)):
            self.assertIs(left == right, wanted)
            self.assertIs(left != right, not wanted)

    def test_of_all_classes(self):
        for kind, other in itertools.product(CLASSES, CLASSES):
            self.assert_equal(kind(REVERSE, ("first", 3), REVERSE), other(("last", 3)), True)
            self.assert_equal(kind(), other(repeat(FAR)), True)
            self.assert_equal(kind(("up", 0), REVERSE), other(("down", 0)), False)
            self.assert_equal(kind(("first", 3)), other(("first", 4)), False)

    def test_runs_and_limits_play_no_part(self):
        one, two = CountedLimitedPipeline(REVERSE), CountedLimitedPipeline(REVERSE)
        one.run(TABLE)
        one.limit = 5
        self.assert_equal(one, two, True)

    def test_after_an_assignment(self):
        one, two = Pipeline(REVERSE), Pipeline()
        self.assert_equal(one, two, False)
        one.commands = (REVERSE, REVERSE)
        self.assert_equal(one, two, True)

    def test_with_values_that_are_no_pipelines(self):
        for kind in CLASSES:
            for value in (None, 0, 1, True, False, "", "reverse", (), (REVERSE,), [], [REVERSE], {}, object(), Pipeline, kind):
                self.assert_equal(kind(), value, False)
                self.assert_equal(kind(REVERSE), value, False)
            self.assertIs(kind() == Odd(), False)
            self.assertIs(kind() != Odd(), True)


class CountedTest(ErrorCase):
    def test_runs(self):
        for kind in COUNTED:
            pipeline = kind(("up", 1))
            self.assertEqual(pipeline.runs, 0)
            for count in range(1, 5):
                pipeline.run(TABLE)
                self.assertEqual(pipeline.runs, count)
            self.assertIs(type(pipeline.runs), int)

    def test_runs_that_raise_are_not_counted(self):
        for kind in COUNTED:
            pipeline = kind(("up", 1))
            pipeline.run(TABLE)
            self.assert_error(InvalidTable, "index", None, pipeline.run, ())
            self.assert_error(MissingColumn, "column", 1, pipeline.run, ((1,),))
            self.assertEqual(pipeline.runs, 1)
        pipeline.limit = 3
        self.assert_error(TooManyRecords, "count", 4, pipeline.run, TABLE)
        self.assertEqual(pipeline.runs, 1)
        pipeline.run(TABLE[:3])
        self.assertEqual(pipeline.runs, 2)

    def test_each_table_is_not_counted(self):
        for kind in COUNTED:
            pipeline = kind(("up", 1))
            list_tables(pipeline, TABLE)
            self.assertEqual(pipeline.runs, 0)

    def test_runs_have_no_setter(self):
        for kind in COUNTED:
            pipeline = kind()
            with self.assertRaises(AttributeError):
                pipeline.runs = 3
            self.assertEqual(pipeline.runs, 0)

    def test_runs_stay_when_commands_are_assigned(self):
        for kind in COUNTED:
            pipeline = kind(REVERSE)
            pipeline.run(TABLE)
            pipeline.commands = ()
            self.assertEqual(pipeline.runs, 1)
            self.assert_error(InvalidProgram, "index", None, set_commands, pipeline, None)
            self.assertEqual(pipeline.runs, 1)

    def test_new_pipelines_have_no_runs(self):
        for kind in COUNTED:
            pipeline = kind(REVERSE)
            pipeline.run(TABLE)
            self.assertEqual([pipeline.then().runs, pipeline.parse("").runs, kind.parse("").runs, pipeline.runs], [0, 0, 0, 1])


class LimitedTest(ErrorCase):
    def test_at_first(self):
        for kind in LIMITED:
            pipeline = kind(REVERSE)
            self.assertEqual(pipeline.limit, 30)
            self.assertEqual(len(pipeline.run(table_of(30))), 30)

    def test_as_many_records_as_the_limit_and_one_more(self):
        for kind in LIMITED:
            for limit in (1, 2, 15, 29, 30):
                pipeline = kind(REVERSE)
                pipeline.limit = limit
                self.assertEqual(pipeline.limit, limit)
                self.assertEqual(pipeline.run(table_of(limit)), table_of(limit)[::-1])
                if limit < 30:
                    self.assert_error(TooManyRecords, "count", limit + 1, pipeline.run, table_of(limit + 1))
                    self.assert_error(TooManyRecords, "count", 30, pipeline.run, table_of(30))
                    with self.assertRaises(LimitError):
                        pipeline.run(table=table_of(30))
                self.assert_error(InvalidTable, "index", None, pipeline.run, table_of(31))

    def test_right_after_invalid_table_and_before_missing_column(self):
        for kind in LIMITED:
            pipeline = kind(("up", 3))
            pipeline.limit = 2
            self.assert_error(InvalidTable, "index", 3, pipeline.run, ((1,), (2,), (3,), ()))
            self.assert_error(TooManyRecords, "count", 3, pipeline.run, table_of(3))
            self.assert_error(MissingColumn, "column", 3, pipeline.run, table_of(2))

    def test_each_table_does_not_raise_it(self):
        for kind in LIMITED:
            pipeline = kind(REVERSE)
            pipeline.limit = 1
            self.assertEqual(list_tables(pipeline, TABLE), [TABLE[::-1]])

    def test_refused_limits(self):
        for kind in LIMITED:
            pipeline = kind(REVERSE)
            pipeline.limit = 7
            for value in WRONG_LIMITS:
                self.assert_error(InvalidLimit, "value", value, set_limit, pipeline, value)
                self.assertEqual(pipeline.limit, 7)
            pipeline.limit = 1
            self.assert_error(InvalidLimit, "value", True, set_limit, pipeline, True)
            with self.assertRaises(TableError):
                pipeline.limit = 0
            self.assertEqual(pipeline.limit, 1)
            self.assertIs(type(pipeline.limit), int)

    def test_the_limit_stays_when_commands_are_assigned(self):
        for kind in LIMITED:
            pipeline = kind(REVERSE)
            pipeline.limit = 4
            pipeline.commands = ()
            self.assertEqual(pipeline.limit, 4)
            self.assert_error(InvalidProgram, "index", 0, set_commands, pipeline, (None,))
            self.assertEqual(pipeline.limit, 4)

    def test_new_pipelines_have_the_limit_30(self):
        for kind in LIMITED:
            pipeline = kind(REVERSE)
            pipeline.limit = 4
            self.assertEqual([pipeline.then().limit, pipeline.parse("").limit, kind.parse("").limit], [30, 30, 30])
            self.assertEqual(pipeline.limit, 4)


class AssignTest(ErrorCase):
    def test_nothing(self):
        for kind in CLASSES:
            pipeline = kind(REVERSE)
            before = state(pipeline)
            self.assertIsNone(assign(pipeline))
            self.assertIsNone(assign(pipeline, commands=None, limit=None))
            self.assertEqual(state(pipeline), before)

    def test_commands(self):
        for kind in CLASSES:
            pipeline = kind(REVERSE)
            self.assertIsNone(assign(pipeline, commands=(("up", 0),)))
            self.assertEqual(pipeline.commands, (("up", 0),))
            self.assertIsNone(assign(pipeline=pipeline, commands=()))
            self.assertEqual(pipeline.commands, ())

    def test_limit(self):
        for kind in LIMITED:
            pipeline = kind(REVERSE)
            for limit in (1, 30, 9):
                self.assertIsNone(assign(pipeline, limit=limit))
                self.assertEqual([pipeline.commands, pipeline.limit], [(REVERSE,), limit])

    def test_both_with_one_or_both_wrong(self):
        for kind in LIMITED:
            pipeline = kind(REVERSE)
            pipeline.run(TABLE)
            pipeline.limit = 12
            before = state(pipeline)
            for value, index in WRONG_PROGRAMS:
                if value is not None:
                    for limit in (None, 3, 0, True, "x"):
                        self.assert_error(InvalidProgram, "index", index, assign, pipeline, commands=value, limit=limit)
                        self.assertEqual(state(pipeline), before)
            for value in WRONG_LIMITS:
                if value is not None:
                    self.assert_error(InvalidLimit, "value", value, assign, pipeline, limit=value)
                    self.assert_error(InvalidLimit, "value", value, assign, pipeline, limit=value, commands=(("up", 0),))
                    self.assertEqual(state(pipeline), before)

    def test_by_name_only(self):
        pipeline = LimitedPipeline(REVERSE)
        for call in (lambda: assign(pipeline, ()), lambda: assign(pipeline, (), 9)):
            with self.assertRaises(TypeError):
                call()
        self.assertEqual([pipeline.commands, pipeline.limit], [(REVERSE,), 30])


if __name__ == "__main__":
    unittest.main()
