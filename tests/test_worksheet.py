import itertools
import random
import unittest

from sortcuts.errors import (
    FindError, InvalidEdit, InvalidProgram, InvalidRecord, InvalidTable, InvalidValue, LastRecord, LimitError,
    MissingColumn, NoPlace, NothingToUndo, TableError, TooManyEdits, TooManyRecords)
from sortcuts.running import run
from sortcuts.worksheet import Worksheet, replay
from tests.checks import NEVER_VALID, ErrorCase, Odd
from tests.program_samples import FAR, REVERSE, WRONG_PROGRAMS, repeat
from tests.reference import few_steps
from tests.samples import WRONG_TABLES

TABLE = ((3, 1), (1, 2), (3, 0))
THIRTY = tuple((place, -place) for place in range(30))
FIVE = ((1, 2, 3, 4, 5), (5, 4, 3, 2, 1))

# Values that are not integers; the last ones look like them.
NO_INTEGERS = (None, "0", "", b"0", (), (0,), [0], {}, {0}, Odd(), True, False)

# Values that do not have the form of an edit.
WRONG_FORMS = NEVER_VALID + (
    0, 1, "run", "add", ("run",), ("add",), ("drop",), ("set",), ("run", (), ()), ("add", (1, 2), 3), ("drop", 0, 0),
    ("set", 0), ("set", 0, 0), ("set", 0, 0, 0, 0), ("undo",), ("sort", 0), ("", 0), ("Run", ()), ("run ", ()),
    ("drop ", 0), ("set_value", 0, 0, 0), ("run_program", ()), (b"drop", 0), (("drop",), 0), (Odd(), 0), (Odd(), 0, 0, 0),
    ["drop", 0], ["run", ()], [["drop"], 0], {"drop": 0}, (0, "drop"), (None, 0), (True, 0), ((), 0), ([], 0), ({}, 0),
)

# Edits that raise an error on TABLE, each with the error, its attribute and the value of it.
REFUSED = (
    (("run", None), InvalidProgram, "index", None),
    (("run", [REVERSE]), InvalidProgram, "index", None),
    (("run", (REVERSE, ("up", True))), InvalidProgram, "index", 1),
    (("run", (("up", 3), ("down", 2))), MissingColumn, "column", 2),
    (("add", (0, 9, 1)), InvalidRecord, "record", (0, 9, 1)),
    (("add", [0, 9]), InvalidRecord, "record", [0, 9]),
    (("add", None), InvalidRecord, "record", None),
    (("add", (0, True)), InvalidRecord, "record", (0, True)),
    (("drop", 3), NoPlace, "place", 3),
    (("drop", True), NoPlace, "place", True),
    (("drop", None), NoPlace, "place", None),
    (("set", 3, 9, None), NoPlace, "place", 3),
    (("set", 0, 2, None), MissingColumn, "column", 2),
    (("set", 0, False, 1), MissingColumn, "column", False),
    (("set", 0, 1, True), InvalidValue, "value", True),
    (("set", 0, 1, "1"), InvalidValue, "value", "1"),
)


def state(sheet):
    """All that a worksheet tells of itself."""
    return [sheet.table, sheet.edits, sheet.log(), sheet.busy, len(sheet), str(sheet), repr(sheet)]


def perform(sheet, edit):
    word, *rest = edit
    return {"run": sheet.run_program, "add": sheet.add, "drop": sheet.drop, "set": sheet.set_value}[word](*rest)


def full_sheet(table=TABLE, edits=500):
    sheet = Worksheet(table)
    sheet.do_all(tuple(("set", 0, 0, number) for number in range(edits)))
    return sheet


class SheetCase(ErrorCase):
    def assert_refused(self, sheet, error, name, wanted, function, *given, **named):
        before = state(sheet)
        self.assert_error(error, name, wanted, function, *given, **named)
        self.assertEqual(state(sheet), before)

    def assert_plain_error(self, sheet, error, base, function, *given):
        """An error without an attribute."""
        before = state(sheet)
        with self.assertRaises(error) as caught:
            function(*given)
        self.assertIs(type(caught.exception), error)
        self.assertEqual([error.__bases__, vars(caught.exception)], [(base,), {}])
        self.assertEqual(state(sheet), before)


class ExamplesTest(SheetCase):
    def test_edits(self):
        sheet = Worksheet(TABLE)
        sheet.run_program((("up", 0), ("first", 2)))
        sheet.add((0, 9))
        self.assertEqual(
            [sheet.table, len(sheet), sheet.edits, str(sheet), repr(sheet)],
            [((1, 2), (3, 1), (0, 9)), 3, 2, "1 2\n3 1\n0 9", "Worksheet(3, 2)"])

    def test_undo(self):
        sheet = Worksheet(TABLE)
        sheet.set_value(2, 1, 7)
        sheet.drop(0)
        sheet.undo()
        self.assertEqual([sheet.table, sheet.log()], [((3, 1), (1, 2), (3, 7)), (("set", 2, 1, 7),)])

    def test_errors(self):
        sheet = Worksheet(TABLE)
        self.assert_refused(sheet, InvalidRecord, "record", (0, 9, 1), sheet.add, (0, 9, 1))
        self.assert_refused(sheet, NoPlace, "place", 2, sheet.do_all, (("drop", 0), ("drop", 2)))

    def test_replay(self):
        self.assertEqual(replay(((3,), (1,)), (("add", (2,)), ("run", (("up", 0),)))).table, ((1,), (2,), (3,)))


class NewTest(ErrorCase):
    def test_what_it_is_at_first(self):
        for table in (TABLE, ((7,),), THIRTY, FIVE):
            for sheet in (Worksheet(table), Worksheet(table=table)):
                self.assertEqual([sheet.table, sheet.edits, sheet.log(), len(sheet)], [table, 0, (), len(table)])
                self.assertIs(sheet.busy, False)
                self.assertEqual(repr(sheet), f"Worksheet({len(table)}, {len(table[0])})")

    def test_wrong_tables(self):
        for value, index in WRONG_TABLES:
            self.assert_error(InvalidTable, "index", index, Worksheet, value)
            self.assert_error(InvalidTable, "index", index, Worksheet, table=value)
        for value in NEVER_VALID:
            self.assert_error(InvalidTable, "index", 0 if isinstance(value, tuple) and value else None, Worksheet, value)

    def test_true_and_false_after_an_equal_call(self):
        for _ in range(2):
            Worksheet(((1,), (0,)))
            self.assert_error(InvalidTable, "index", 1, Worksheet, ((1,), (False,)))

    def test_properties_have_no_setters(self):
        sheet = Worksheet(TABLE)
        for name in ("table", "edits"):
            self.assertIsInstance(vars(Worksheet)[name], property)
            with self.assertRaises(AttributeError):
                setattr(sheet, name, 1)
        self.assertEqual([sheet.table, sheet.edits], [TABLE, 0])

    def test_listed_methods_stand_in_the_class_itself(self):
        names = "table edits run_program add drop set_value do_all undo log __init__ __len__ __eq__ __str__ __repr__"
        self.assertLessEqual(set(names.split()), set(vars(Worksheet)))

    def test_str(self):
        self.assertEqual(str(Worksheet(((7,),))), "7")
        self.assertEqual(str(Worksheet(FIVE)), "1 2 3 4 5\n5 4 3 2 1")
        self.assertEqual(str(Worksheet(((-1, 0), (10 ** 39, -(10 ** 39))))), f"-1 0\n1{'0' * 39} -1{'0' * 39}")

    def test_equality(self):
        one, two = Worksheet(TABLE), Worksheet(TABLE + ((9, 9),))
        self.assertIs(one == two, False)
        self.assertIs(one != two, True)
        two.drop(3)
        self.assertIs(one == two, True)
        self.assertIs(one != two, False)
        self.assertIs(Worksheet(((1,), (2,))) == Worksheet(((2,), (1,))), False)
        for value in (None, TABLE, list(TABLE), 0, True, "3 1\n1 2\n3 0", str(one), Worksheet, object(), Odd()):
            self.assertIs(one == value, False)
            self.assertIs(one != value, True)
        self.assertIs(TABLE == one, False)

    def test_two_worksheets_do_not_change_each_other(self):
        one, two = Worksheet(TABLE), Worksheet(TABLE)
        one.add((0, 0))
        one.run_program((REVERSE,))
        self.assertEqual(state(two), state(Worksheet(TABLE)))
        again = replay(TABLE, one.log())
        again.undo()
        self.assertEqual([one.edits, again.edits], [2, 1])


class RunProgramTest(SheetCase):
    def test_places_are_those_of_the_table_before_the_edit(self):
        sheet = Worksheet(TABLE)
        self.assertIsNone(sheet.run_program((("up", 0),)))
        self.assertEqual(sheet.table, ((1, 2), (3, 1), (3, 0)))
        sheet.run_program((("restore",),))
        self.assertEqual(sheet.table, ((1, 2), (3, 1), (3, 0)))
        sheet.run_program(program=(("down", 1), ("restore",), ("last", 2)))
        self.assertEqual(sheet.table, ((3, 1), (3, 0)))
        self.assertEqual(
            sheet.log(),
            (("run", (("up", 0),)), ("run", (("restore",),)), ("run", (("down", 1), ("restore",), ("last", 2)))))

    def test_programs_that_change_nothing_are_edits_too(self):
        sheet = Worksheet(TABLE)
        sheet.run_program(())
        self.assertEqual([sheet.table, sheet.log()], [TABLE, (("run", ()),)])

    def test_the_log_keeps_programs_as_they_were_passed(self):
        sheet = Worksheet(TABLE)
        program = (repeat(FAR, REVERSE, ("first", 2)), ("up", 0), ("up", 0))
        with few_steps():
            sheet.run_program(program)
        self.assertEqual([sheet.table, sheet.log()], [run(TABLE, program), (("run", program),)])

    def test_errors(self):
        sheet = Worksheet(TABLE)
        for value, index in WRONG_PROGRAMS:
            self.assert_refused(sheet, InvalidProgram, "index", index, sheet.run_program, value)
        self.assert_refused(sheet, MissingColumn, "column", 2, sheet.run_program, (("up", 3), ("up", 2)))
        self.assert_refused(sheet, InvalidProgram, "index", 1, sheet.run_program, (("up", 3), None))

    def test_true_and_false_after_an_equal_call(self):
        sheet = Worksheet(TABLE)
        sheet.run_program((("up", 1),))
        self.assert_refused(sheet, InvalidProgram, "index", 0, sheet.run_program, (("up", True),))


class AddTest(SheetCase):
    def test_as_the_last_record(self):
        sheet = Worksheet(TABLE)
        self.assertIsNone(sheet.add((0, -9)))
        self.assertIsNone(sheet.add(record=(0, -9)))
        self.assertEqual(sheet.table, TABLE + ((0, -9), (0, -9)))
        self.assertEqual(sheet.log(), (("add", (0, -9)), ("add", (0, -9))))

    def test_five_columns(self):
        sheet = Worksheet(FIVE)
        sheet.add((0, 0, 0, 0, 0))
        self.assertEqual(sheet.table, FIVE + ((0,) * 5,))
        for record in ((0,) * 4, (0,) * 6):
            self.assert_refused(sheet, InvalidRecord, "record", record, sheet.add, record)

    def test_wrong_records(self):
        sheet = Worksheet(TABLE)
        for value in NEVER_VALID + (0, (1,), (1, 2, 3), (1, True), (False, 1), [1, 2], (1, "2"), (1, None), ((1, 2),), "12"):
            self.assert_refused(sheet, InvalidRecord, "record", value, sheet.add, value)

    def test_true_and_false_after_an_equal_call(self):
        sheet = Worksheet(TABLE)
        for _ in range(2):
            sheet.add((1, 0))
            self.assert_refused(sheet, InvalidRecord, "record", (True, 0), sheet.add, (True, 0))

    def test_thirty_records(self):
        sheet = Worksheet(THIRTY[:29])
        sheet.add(THIRTY[29])
        self.assertEqual(sheet.table, THIRTY)
        self.assert_refused(sheet, TooManyRecords, "count", 30, sheet.add, (0, 0))
        self.assert_refused(sheet, InvalidRecord, "record", (0,), sheet.add, (0,))
        self.assert_refused(sheet, InvalidRecord, "record", None, sheet.add, None)
        sheet.drop(0)
        sheet.add((7, 7))
        self.assertEqual(sheet.table, THIRTY[1:] + ((7, 7),))


class DropTest(SheetCase):
    def test_every_place(self):
        for place in range(3):
            sheet = Worksheet(TABLE)
            self.assertIsNone(sheet.drop(place=place))
            self.assertEqual(sheet.table, TABLE[:place] + TABLE[place + 1:])
            self.assertEqual(sheet.log(), (("drop", place),))

    def test_places_of_the_present_table(self):
        sheet = Worksheet(TABLE)
        sheet.drop(0)
        sheet.drop(0)
        self.assertEqual(sheet.table, ((3, 0),))

    def test_wrong_places(self):
        sheet = Worksheet(TABLE)
        for value in NO_INTEGERS + (-1, 3, 30, 10 ** 39, -(10 ** 39)):
            self.assert_refused(sheet, NoPlace, "place", value, sheet.drop, value)

    def test_true_and_false_after_an_equal_call(self):
        sheet = Worksheet(TABLE)
        sheet.drop(1)
        self.assert_refused(sheet, NoPlace, "place", True, sheet.drop, True)
        sheet.drop(0)
        self.assert_refused(sheet, NoPlace, "place", False, sheet.drop, False)

    def test_the_last_record(self):
        sheet = Worksheet(((7, 8),))
        self.assert_plain_error(sheet, LastRecord, LimitError, sheet.drop, 0)
        self.assert_refused(sheet, NoPlace, "place", 1, sheet.drop, 1)
        self.assert_refused(sheet, NoPlace, "place", False, sheet.drop, False)


class SetValueTest(SheetCase):
    def test_every_value(self):
        for place, column in itertools.product(range(2), range(5)):
            sheet = Worksheet(FIVE)
            self.assertIsNone(sheet.set_value(place, column, -7))
            for other, at in itertools.product(range(2), range(5)):
                self.assertEqual(sheet.table[other][at], -7 if (other, at) == (place, column) else FIVE[other][at])
            self.assertEqual(sheet.log(), (("set", place, column, -7),))

    def test_by_name(self):
        sheet = Worksheet(TABLE)
        sheet.set_value(value=10 ** 39, column=0, place=2)
        self.assertEqual(sheet.table[2], (10 ** 39, 0))

    def test_the_same_value_is_an_edit_too(self):
        sheet = Worksheet(TABLE)
        sheet.set_value(0, 0, 3)
        self.assertEqual([sheet.table, sheet.edits], [TABLE, 1])

    def test_errors_in_their_order(self):
        sheet = Worksheet(TABLE)
        for place in NO_INTEGERS + (-1, 3, 10 ** 39):
            for column, value in ((0, 0), (2, None), (None, None)):
                self.assert_refused(sheet, NoPlace, "place", place, sheet.set_value, place, column, value)
        for column in NO_INTEGERS + (-1, 2, 5, 10 ** 39):
            for value in (0, None, True):
                self.assert_refused(sheet, MissingColumn, "column", column, sheet.set_value, 0, column, value)
        for value in NO_INTEGERS:
            self.assert_refused(sheet, InvalidValue, "value", value, sheet.set_value, 1, 1, value)

    def test_true_and_false_after_an_equal_call(self):
        sheet = Worksheet(TABLE)
        sheet.set_value(1, 1, 1)
        self.assert_refused(sheet, NoPlace, "place", True, sheet.set_value, True, 1, 1)
        self.assert_refused(sheet, MissingColumn, "column", True, sheet.set_value, 1, True, 1)
        self.assert_refused(sheet, InvalidValue, "value", True, sheet.set_value, 1, 1, True)


class UndoTest(SheetCase):
    def test_to_the_empty_log_and_once_more(self):
        sheet = Worksheet(TABLE)
        tables = [TABLE]
        for edit in (("add", (5, 5)), ("run", (("up", 1), ("first", 3))), ("drop", 1), ("set", 0, 0, 9), ("run", ())):
            perform(sheet, edit)
            tables.append(sheet.table)
        while sheet.edits:
            self.assertEqual([sheet.table, sheet.edits], [tables.pop(), len(tables)])
            self.assertIsNone(sheet.undo())
        self.assertEqual([sheet.table, sheet.log()], [TABLE, ()])
        for _ in range(2):
            self.assert_plain_error(sheet, NothingToUndo, FindError, sheet.undo)
        self.assertIsInstance(NothingToUndo(), LookupError)

    def test_each_edit_of_do_all_is_one_entry(self):
        sheet = Worksheet(TABLE)
        sheet.do_all((("drop", 0), ("add", (1, 1))))
        sheet.undo()
        self.assertEqual([sheet.table, sheet.log()], [TABLE[1:], (("drop", 0),)])

    def test_an_edit_after_an_undo(self):
        sheet = Worksheet(TABLE)
        sheet.drop(0)
        sheet.undo()
        sheet.drop(1)
        self.assertEqual([sheet.table, sheet.log()], [(TABLE[0], TABLE[2]), (("drop", 1),)])

    def test_undo_after_a_refused_edit(self):
        sheet = Worksheet(TABLE)
        sheet.drop(0)
        self.assert_refused(sheet, NoPlace, "place", 2, sheet.drop, 2)
        sheet.undo()
        self.assertEqual([sheet.table, sheet.edits], [TABLE, 0])


class FullLogTest(SheetCase):
    edits = (("run", (REVERSE,)), ("add", (1, 1)), ("drop", 0), ("set", 0, 0, 0))

    def test_500_edits_and_one_more(self):
        sheet = full_sheet(edits=499)
        sheet.drop(1)
        self.assertEqual(sheet.edits, 500)
        for edit in self.edits:
            self.assert_refused(sheet, TooManyEdits, "count", 500, perform, sheet, edit)
            self.assert_refused(sheet, TooManyEdits, "count", 500, sheet.do_all, (edit,))
        self.assertIsNone(sheet.do_all(()))
        sheet.undo()
        self.assertEqual(sheet.edits, 499)
        perform(sheet, self.edits[1])
        self.assertEqual(sheet.edits, 500)

    def test_after_all_other_errors(self):
        sheet = full_sheet()
        for edit, error, name, wanted in REFUSED:
            self.assert_refused(sheet, error, name, wanted, perform, sheet, edit)
            self.assert_refused(sheet, error, name, wanted, sheet.do_all, (edit,))
        sheet = full_sheet(THIRTY)
        self.assert_refused(sheet, TooManyRecords, "count", 30, sheet.add, (0, 0))
        self.assert_refused(sheet, InvalidRecord, "record", (0,), sheet.add, (0,))
        sheet = full_sheet(((7,),))
        self.assert_plain_error(sheet, LastRecord, LimitError, sheet.drop, 0)

    def test_do_all_that_would_go_beyond(self):
        sheet = full_sheet(edits=498)
        seen = []
        self.assert_refused(
            sheet, TooManyEdits, "count", 500, sheet.do_all, (("drop", 0), ("drop", 0), ("add", (4, 4))),
            watch=lambda given, index: seen.append((index, given.edits)))
        self.assertEqual(seen, [(0, 499), (1, 500)])
        sheet.do_all((("drop", 0), ("drop", 0)))
        self.assertEqual(sheet.edits, 500)
        self.assertIsInstance(TooManyEdits(500), LimitError)

    def test_undo_all_500(self):
        sheet = full_sheet()
        for _ in range(500):
            sheet.undo()
        self.assertEqual(state(sheet), state(Worksheet(TABLE)))


class DoAllTest(SheetCase):
    good = (("add", (5, 5)), ("run", (("up", 1), ("first", 3))), ("set", 0, 0, 9), ("drop", 2))

    def test_all_in_order(self):
        sheet, other = Worksheet(TABLE), Worksheet(TABLE)
        self.assertIsNone(sheet.do_all(self.good))
        for edit in self.good:
            perform(other, edit)
        self.assertEqual(state(sheet), state(other))
        self.assertEqual([sheet.log(), sheet.edits], [self.good, 4])

    def test_no_edits(self):
        sheet = Worksheet(TABLE)
        seen = []
        self.assertIsNone(sheet.do_all((), watch=lambda given, index: seen.append(index)))
        self.assertEqual([state(sheet), seen], [state(Worksheet(TABLE)), []])

    def test_refused_at_the_first_a_middle_and_the_last_edit(self):
        for edit, error, name, wanted in REFUSED:
            for at in range(4):
                # None of these changes whether the edit is refused.
                edits = [("set", 0, 0, 1), ("set", 1, 1, 2), ("run", ())]
                edits.insert(at, edit)
                sheet = Worksheet(TABLE)
                sheet.set_value(2, 1, 8)
                self.assert_refused(sheet, error, name, wanted, sheet.do_all, tuple(edits))
                self.assert_refused(sheet, error, name, wanted, sheet.do_all, edits=tuple(edits), watch=lambda *given: None)
                self.assertIs(sheet.busy, False)
                sheet.undo()
                self.assertEqual(sheet.table, TABLE)

    def test_errors_that_depend_on_the_edits_before(self):
        sheet = Worksheet(TABLE)
        self.assert_refused(sheet, NoPlace, "place", 2, sheet.do_all, (("drop", 0), ("drop", 2)))
        with self.assertRaises(LastRecord):
            sheet.do_all((("drop", 0), ("drop", 0), ("drop", 0)))
        self.assertEqual(state(sheet), state(Worksheet(TABLE)))
        sheet.do_all((("add", (0, 0)), ("drop", 3)))
        full = Worksheet(THIRTY)
        self.assert_refused(full, TooManyRecords, "count", 30, full.do_all, (("drop", 0),) + (("add", (0, 0)),) * 2)

    def test_the_first_edit_that_raises_an_error(self):
        sheet = Worksheet(TABLE)
        self.assert_refused(sheet, NoPlace, "place", 7, sheet.do_all, (("drop", 7), ("add", None), ("drop", 8)))
        self.assert_refused(sheet, InvalidRecord, "record", None, sheet.do_all, (("run", ()), ("add", None), ("drop", 8)))

    def test_values_that_are_no_tuple(self):
        sheet = Worksheet(TABLE)
        for value in (None, True, False, 0, "", "run", [], [("drop", 0)], {}, {("drop", 0): 1}, Odd()):
            self.assert_refused(sheet, InvalidEdit, "index", None, sheet.do_all, value)

    def test_elements_that_do_not_look_like_edits(self):
        sheet = Worksheet(TABLE)
        for value in WRONG_FORMS:
            self.assert_refused(sheet, InvalidEdit, "index", 0, sheet.do_all, (value,))
            self.assert_refused(sheet, InvalidEdit, "index", 1, sheet.do_all, (("drop", 0), value, value))
            # The form of all elements comes before the errors of any edit.
            self.assert_refused(sheet, InvalidEdit, "index", 2, sheet.do_all, (("drop", 9), ("add", None), value))
        self.assertIsInstance(InvalidEdit(0), TableError)

    def test_the_function_that_watches_is_not_called_before_the_form_is_right(self):
        sheet, seen = Worksheet(TABLE), []
        self.assert_refused(
            sheet, InvalidEdit, "index", 1, sheet.do_all, (("drop", 0), None), watch=lambda *given: seen.append(given))
        self.assertEqual(seen, [])

    def test_watch_by_name_only(self):
        sheet = Worksheet(TABLE)
        with self.assertRaises(TypeError):
            sheet.do_all((), None)

    def test_what_is_watched(self):
        sheet, seen = Worksheet(TABLE), []

        def watch(given, index):
            self.assertIs(given, sheet)
            self.assertIs(given.busy, True)
            self.assertIs(type(index), int)
            seen.append((index, given.table, given.edits, given.log()))

        sheet.do_all(self.good, watch=watch)
        other, wanted = Worksheet(TABLE), []
        for index, edit in enumerate(self.good):
            perform(other, edit)
            wanted.append((index, other.table, index + 1, self.good[:index + 1]))
        self.assertEqual(seen, wanted)
        self.assertIs(sheet.busy, False)

    def test_a_function_that_watches_and_raises(self):
        class Own(Exception):
            pass

        for raised in (Own("x"), ValueError("x"), KeyError(1), NoPlace(9), KeyboardInterrupt(), StopIteration(), SystemExit(2)):
            for at in range(4):
                sheet = Worksheet(TABLE)
                sheet.drop(1)
                sheet.undo()
                sheet.add((8, 8))
                before = state(sheet)

                def watch(given, index):
                    if index == at:
                        raise raised

                with self.assertRaises(type(raised)) as caught:
                    sheet.do_all((("drop", 0), ("add", (5, 5)), ("run", (REVERSE,)), ("set", 0, 0, 0)), watch=watch)
                self.assertIs(caught.exception, raised)
                self.assertEqual(state(sheet), before)
                self.assertIs(sheet.busy, False)

    def test_an_edit_that_is_refused_between_others_that_are_watched(self):
        sheet, seen = Worksheet(TABLE), []
        self.assert_refused(
            sheet, NoPlace, "place", 9, sheet.do_all, (("drop", 0), ("run", ()), ("drop", 9), ("drop", 0)),
            watch=lambda given, index: seen.append(index))
        self.assertEqual(seen, [0, 1])

    def test_busy_stays_true_after_a_refused_call_of_the_function_that_watches(self):
        sheet, seen = Worksheet(TABLE), []

        def watch(given, index):
            for edits in (None, (("drop", 9),), (("add", (1, 1)), ("drop", 9))):
                before = state(given)
                with self.assertRaises((InvalidEdit, NoPlace)):
                    given.do_all(edits)
                self.assertEqual(state(given), before)
            given.do_all(())
            seen.append(given.busy)

        sheet.do_all(self.good, watch=watch)
        self.assertEqual([seen, sheet.busy, sheet.log()], [[True] * 4, False, self.good])

    def test_another_worksheet_is_not_busy(self):
        sheet, other, seen = Worksheet(TABLE), Worksheet(TABLE), []

        def watch(given, index):
            other.do_all((("set", 0, 0, index),), watch=lambda *given: seen.append((sheet.busy, other.busy)))
            seen.append((sheet.busy, other.busy))

        sheet.do_all((("drop", 0), ("drop", 0)), watch=watch)
        self.assertEqual(seen, [(True, True), (True, False)] * 2)
        self.assertEqual(other.edits, 2)

    def test_single_edits_are_never_busy(self):
        sheet = Worksheet(TABLE)
        for edit in self.good:
            perform(sheet, edit)
            self.assertIs(sheet.busy, False)


class ReplayTest(SheetCase):
    def test_the_log_of_a_worksheet(self):
        sheet = Worksheet(TABLE)
        sheet.do_all(DoAllTest.good)
        self.assert_refused(sheet, NoPlace, "place", 5, sheet.drop, 5)
        sheet.undo()
        again = replay(table=TABLE, log=sheet.log())
        self.assertIs(type(again), Worksheet)
        self.assertEqual(state(again), state(sheet))
        self.assertIs(again == sheet, True)
        again.undo()
        self.assertEqual(again.edits, 2)

    def test_random_logs(self):
        source = random.Random(71)
        for _ in range(40):
            sheet = Worksheet(TABLE)
            for _ in range(30):
                edit = source.choice((
                    ("run", (("up", source.randrange(3)), ("first", source.randint(2, 5)))), ("add", (source.randint(0, 9), 1)),
                    ("drop", source.randrange(4)), ("set", source.randrange(4), source.randrange(3), source.randint(0, 9))))
                before = state(sheet)
                try:
                    perform(sheet, edit)
                except (FindError, LimitError):
                    self.assertEqual(state(sheet), before)
            self.assertEqual(state(replay(TABLE, sheet.log())), state(sheet))

    def test_no_edits(self):
        self.assertEqual(state(replay(TABLE, ())), state(Worksheet(TABLE)))

    def test_500_and_501_edits(self):
        log = tuple(("set", 0, 0, number) for number in range(501))
        self.assertEqual(replay(TABLE, log[:500]).log(), log[:500])
        self.assert_error(InvalidEdit, "index", 500, replay, TABLE, log)
        self.assert_error(InvalidEdit, "index", 500, replay, TABLE, log + (None,))
        self.assertEqual(replay(TABLE, full_sheet().log()).edits, 500)

    def test_wrong_tables(self):
        for value, index in WRONG_TABLES:
            for log in ((), None, (None,)):
                self.assert_error(InvalidTable, "index", index, replay, value, log)
                self.assert_error(InvalidTable, "index", index, replay, log=log, table=value)

    def test_values_that_are_no_tuple(self):
        for value in (None, True, 0, "", [], [("drop", 0)], {}, Odd()):
            self.assert_error(InvalidEdit, "index", None, replay, TABLE, value)

    def test_elements_that_are_no_edits_or_raise_an_error(self):
        wrong = list(WRONG_FORMS) + [edit for edit, error, name, wanted in REFUSED]
        for value in wrong:
            for at in range(3):
                log = [("set", 0, 0, 1), ("run", ())]
                log.insert(at, value)
                self.assert_error(InvalidEdit, "index", at, replay, TABLE, tuple(log))

    def test_the_first_wrong_element_in_order_of_either_kind(self):
        self.assert_error(InvalidEdit, "index", 1, replay, TABLE, (("drop", 0), ("drop", 2), None))
        self.assert_error(InvalidEdit, "index", 0, replay, TABLE, (None, ("drop", 9)))
        self.assert_error(InvalidEdit, "index", 2, replay, TABLE, (("drop", 0), ("drop", 0), ("drop", 0)))
        self.assert_error(InvalidEdit, "index", 1, replay, THIRTY, (("run", ()), ("add", (0, 0))))

    def test_true_and_false_after_an_equal_call(self):
        for _ in range(2):
            self.assertEqual(replay(TABLE, (("drop", 1),)).edits, 1)
            self.assert_error(InvalidEdit, "index", 0, replay, TABLE, (("drop", True),))

    def test_equal_calls(self):
        self.assertEqual(state(replay(TABLE, DoAllTest.good)), state(replay(TABLE, DoAllTest.good)))


if __name__ == "__main__":
    unittest.main()
