import itertools
import unittest

from sortcuts.console import Console
from sortcuts.errors import (
    InvalidCommand, InvalidRecord, InvalidTable, LastRecord, MissingColumn, NoPlace, NothingToUndo, TableError,
    TooManyEdits, TooManyRecords)
from sortcuts.notation import format_program, parse_program
from sortcuts.shortest import shortest
from sortcuts.worksheet import Worksheet
from tests.checks import NEVER_VALID, ErrorCase
from tests.program_samples import FAR, PROGRAMS, REVERSE, repeat
from tests.reference import few_steps
from tests.samples import WRONG_TABLES

TABLE = ((3, 1), (1, 2), (3, 0))
TWENTY = "9" * 20
TWENTY_ONE = "1" + "0" * 20

# Parts of lines that are not decimal numbers of at most 20 digits without leading zeros.
WRONG_PLACE_WORDS = (
    "", "x", "-1", "-0", "+1", "+0", "00", "01", "000", "1.0", "1e1", "0x1", "1_0", "1,", TWENTY_ONE, "0" * 21, "9" * 40,
    "9" * 1900, "one", "None", "True", "-", "--1", "1-", "'1'", "(1)", "~", "\u0661", "\u00b2", "1\n", "\t1", "\n",
)
WRONG_VALUE_WORDS = tuple(word for word in WRONG_PLACE_WORDS if word != "-1") + (
    "-00", "-01", "--0", "-+1", "+-1", "-" + TWENTY_ONE, "- 1", "-x")

WRONG_PROGRAM_TEXTS = (
    "", " ", "up", "up:", "up:4", "up:00", "up:-1", "up:0 ", " up:0", "up:0  up:1", "Up:0", "reverse:", "first:1", "first:30",
    "last:02", "( )", "( )x0", "( )x", "( )x01", "()x2", "( reverse )", "( reverse )x" + "9" * 31, "( reverse", "reverse )x2",
    "( ( ( ( )x2 )x2 )x2 )x2", "-", "/", "up:0 /", "up:0,up:1", "reverse\n", "up:0\tup:1", " ".join(["reverse"] * 401),
)

WRONG_LINES = (
    "", " ", "  ", "walk", "Table", "TABLE", "table ", " table", "table\n", "\ttable", "table 1", "table table", "tables",
    "edits ", " edits", "edits 0", "edit", "undo ", " undo", "undo 1", "undo undo", "Undo", "ok", "say", "do_all", "log", "-",
    "run", "run ", " run up:0", "run  up:0", "run up:0 ", "add", "add ", "add  1 2", "add 1  2", "add 1 2 ", " add 1 2",
    "add 1,2", "add 1;2", "drop", "drop ", "drop  0", "drop 0 ", "drop 0 0", "drop 0 1", " drop 0", "set", "set ", "set 0",
    "set 0 0", "set 0 0 0 0", "set  0 0 0", "set 0  0 0", "set 0 0  0", "set 0 0 0 ", " set 0 0 0",
    "same", "same ", "same /", "same / ", "same  / ", "same up:0", "same up:0 up:0", "same up:0 /", "same / up:0",
    "same up:0 / ", "same up:0 /  up:0", "same up:0  / up:0", "same  up:0 / up:0", "same up:0 / up:0 ", "same up:0/up:0",
    "same up:0 / up:0 / up:0", "same up:0 / / up:0", "same / / up:0", "same up:0 // up:0", " same up:0 / up:0",
    "shortest", "shortest ", " shortest up:0", "shortest  up:0", "shortest up:0 ", "shortest -", "shortest up:0 / up:0",
)


class ConsoleCase(ErrorCase):
    def assert_told(self, console, table, edits):
        self.assertEqual(console.say("table"), table)
        self.assertEqual(console.say("edits"), edits)

    def assert_refused(self, console, error, name, wanted, line):
        before = [console.say("table"), console.say("edits")]
        self.assert_error(error, name, wanted, console.say, line)
        self.assert_error(error, name, wanted, console.say, line=line)
        self.assertEqual([console.say("table"), console.say("edits")], before)

    def assert_no_command(self, console, line):
        self.assert_refused(console, InvalidCommand, "line", line, line)


class ExamplesTest(ConsoleCase):
    def test_examples(self):
        console = Console(TABLE)
        answers = [console.say(line) for line in ("run up:0 first:2", "table", "undo", "same up:0 / up:1 up:0")]
        self.assertEqual(answers, ["ok", "1 2; 3 1", "ok", "no"])
        self.assert_no_command(Console(((3,),)), "walk")


class NewTest(ConsoleCase):
    def test_wrong_tables(self):
        for value, index in WRONG_TABLES:
            self.assert_error(InvalidTable, "index", index, Console, value)
            self.assert_error(InvalidTable, "index", index, Console, table=value)

    def test_at_first(self):
        self.assert_told(Console(table=TABLE), "3 1; 1 2; 3 0", "0")
        self.assert_told(Console(((7,),)), "7", "0")
        self.assert_told(Console(((1, 2, 3, 4, 5), (-1, 0, 10 ** 39, 0, 0))), f"1 2 3 4 5; -1 0 1{'0' * 39} 0 0", "0")

    def test_the_listed_method_stands_in_the_class_itself(self):
        self.assertIn("say", vars(Console))

    def test_two_consoles_do_not_change_each_other(self):
        one, two = Console(TABLE), Console(TABLE)
        one.say("drop 0")
        self.assert_told(one, "1 2; 3 0", "1")
        self.assert_told(two, "3 1; 1 2; 3 0", "0")


class CommandsTest(ConsoleCase):
    def test_every_edit(self):
        console = Console(TABLE)
        for line, table in (
                ("run up:0 first:2", "1 2; 3 1"), ("add -7 0", "1 2; 3 1; -7 0"), ("drop 1", "1 2; -7 0"),
                ("set 1 0 12", "1 2; 12 0"), ("set 0 1 -3", "1 -3; 12 0"), ("run ( reverse )x3", "12 0; 1 -3"),
                ("run ( )x2", "12 0; 1 -3")):
            self.assertEqual(console.say(line=line), "ok")
            self.assertEqual(console.say("table"), table)
        self.assertEqual(console.say("edits"), "7")
        for table, edits in (("12 0; 1 -3", "6"), ("1 -3; 12 0", "5"), ("1 2; 12 0", "4"), ("1 2; -7 0", "3"),
                             ("1 2; 3 1; -7 0", "2"), ("1 2; 3 1", "1"), ("3 1; 1 2; 3 0", "0")):
            self.assertEqual(console.say("undo"), "ok")
            self.assert_told(console, table, edits)
        with self.assertRaises(NothingToUndo):
            console.say("undo")
        self.assert_told(console, "3 1; 1 2; 3 0", "0")

    def test_as_the_worksheet(self):
        console, sheet = Console(TABLE), Worksheet(TABLE)
        for line, edit in (
                ("add 5 5", ("add", (5, 5))), ("run down:1 last:3 reverse", ("run", (("down", 1), ("last", 3), REVERSE))),
                ("set 2 1 0", ("set", 2, 1, 0)), ("drop 0", ("drop", 0))):
            console.say(line)
            sheet.do_all((edit,))
            self.assert_told(console, str(sheet).replace("\n", "; "), str(sheet.edits))

    def test_one_to_five_values(self):
        for columns in range(1, 6):
            console = Console((tuple(range(columns)),))
            record = " ".join(str(-value) for value in range(columns))
            self.assertEqual(console.say("add " + record), "ok")
            self.assertEqual(console.say("table").split("; ")[1], record)

    def test_numbers_of_20_digits(self):
        console = Console(TABLE)
        self.assertEqual(console.say(f"add {TWENTY} -{TWENTY}"), "ok")
        self.assertEqual(console.say(f"set 0 0 -{TWENTY}"), "ok")
        self.assertEqual(console.say(f"set 0 1 {TWENTY}"), "ok")
        self.assert_told(console, f"-{TWENTY} {TWENTY}; 1 2; 3 0; {TWENTY} -{TWENTY}", "3")
        self.assert_refused(console, NoPlace, "place", int(TWENTY), f"drop {TWENTY}")
        self.assert_refused(console, NoPlace, "place", int(TWENTY), f"set {TWENTY} 0 0")
        self.assert_refused(console, MissingColumn, "column", int(TWENTY), f"set 0 {TWENTY} 0")
        self.assertEqual(console.say("set 0 0 0"), "ok")

    def test_same(self):
        console = Console(((3,),))
        for line, answer in (
                ("same up:0 / up:0", "yes"), ("same up:3 / up:3 up:3", "yes"), ("same up:3 / down:3", "no"),
                ("same reverse first:3 reverse / last:3", "yes"), ("same ( )x2 / restore", "yes"),
                ("same ( reverse first:2 )x3 / ( reverse )x2 reverse last:2", "no"), ("same first:2 / first:3", "no")):
            self.assertEqual(console.say(line), answer)
        with few_steps():
            self.assertEqual(console.say(f"same ( reverse )x{FAR} / ( )x1"), "yes")
        self.assert_told(console, "3", "0")

    def test_shortest(self):
        console = Console(((3,),))
        self.assertEqual(console.say("shortest reverse first:3 reverse"), "last:3")
        self.assertEqual(console.say("shortest up:1 up:0 up:1"), "up:0 up:1")
        self.assertEqual(console.say("shortest reverse reverse"), "-")
        self.assertEqual(console.say("shortest ( )x5"), "-")
        self.assertEqual(console.say("shortest up:3 restore"), "-")
        for program in PROGRAMS:
            if program and len(format_program(program)) < 1990:
                found = console.say("shortest " + format_program(program))
                self.assertEqual(() if found == "-" else parse_program(found), shortest(program))
        self.assert_told(console, "3", "0")

    def test_four_hundred_commands(self):
        console = Console(TABLE)
        text = " ".join(["reverse"] * 399 + ["up:0"])
        self.assertEqual(console.say("run " + text), "ok")
        self.assertEqual(console.say("same " + text + " / " + text), "yes")

    def test_far_repeats(self):
        console = Console(TABLE)
        with few_steps():
            self.assertEqual(console.say("run " + format_program((repeat(FAR, REVERSE, ("first", 2)),))), "ok")
        self.assert_told(console, "1 2; 3 0", "1")

    def test_answers_are_strings(self):
        console = Console(TABLE)
        for line in ("run up:0", "add 1 1", "drop 0", "set 0 0 0", "undo", "table", "edits", "same up:0 / up:0", "shortest up:0"):
            self.assertIs(type(console.say(line)), str)


class WrongLinesTest(ConsoleCase):
    def test_lines_that_are_no_commands(self):
        console = Console(TABLE)
        console.say("add 4 4")
        for line in WRONG_LINES:
            with self.subTest(line):
                self.assert_no_command(console, line)
        self.assertIsInstance(InvalidCommand("x"), TableError)

    def test_values_that_are_no_strings(self):
        console = Console(TABLE)
        for value in NEVER_VALID + (0, 1, ("table",), ["table"], b"table", (b"table",)):
            if not isinstance(value, str):
                self.assert_no_command(console, value)

    def test_wrong_numbers(self):
        console = Console(TABLE)
        for word in WRONG_PLACE_WORDS:
            with self.subTest(word):
                for line in (f"drop {word}", f"set {word} 0 0", f"set 0 {word} 0", f"set 9 {word} 0"):
                    self.assert_no_command(console, line)
        for word in WRONG_VALUE_WORDS:
            with self.subTest(word):
                for line in (f"add {word} 1", f"add 1 {word}", f"add {word}", f"set 0 0 {word}", f"set 9 9 {word}"):
                    self.assert_no_command(console, line)

    def test_wrong_programs(self):
        console = Console(TABLE)
        for text in WRONG_PROGRAM_TEXTS:
            with self.subTest(text):
                for line in (f"run {text}", f"shortest {text}", f"same {text} / up:0", f"same up:0 / {text}"):
                    self.assert_no_command(console, line)

    def test_a_wrong_line_comes_before_the_errors_of_the_worksheet(self):
        console = Console(TABLE)
        for _ in range(500):
            console.say("set 0 0 0")
        for line in WRONG_LINES:
            self.assert_no_command(console, line)
        self.assert_no_command(console, "set 9 9 x")
        self.assert_no_command(console, "run up:3 up:4")
        self.assert_refused(console, TooManyEdits, "count", 500, "run up:0")
        self.assert_refused(console, TooManyEdits, "count", 500, "add 1 1")
        self.assert_refused(console, TooManyEdits, "count", 500, "drop 0")
        self.assert_refused(console, TooManyEdits, "count", 500, "set 0 0 0")
        self.assert_refused(console, NoPlace, "place", 3, "drop 3")
        self.assert_told(console, "0 1; 1 2; 3 0", "500")
        self.assertEqual([console.say("same up:0 / up:0"), console.say("undo"), console.say("edits")], ["yes", "ok", "499"])


class ErrorsOfTheWorksheetTest(ConsoleCase):
    def test_each(self):
        console = Console(TABLE)
        self.assert_refused(console, MissingColumn, "column", 2, "run up:3 up:2 up:0")
        self.assert_refused(console, InvalidRecord, "record", (1,), "add 1")
        self.assert_refused(console, InvalidRecord, "record", (1, 2, -3), "add 1 2 -3")
        self.assert_refused(console, InvalidRecord, "record", tuple(range(9)), "add " + " ".join("012345678"))
        self.assert_refused(console, NoPlace, "place", 3, "drop 3")
        self.assert_refused(console, NoPlace, "place", 3, "set 3 2 0")
        self.assert_refused(console, MissingColumn, "column", 2, "set 2 2 0")

    def test_the_last_record_and_an_empty_log(self):
        console = Console(((7,),))
        for line, error in (("drop 0", LastRecord), ("undo", NothingToUndo)):
            with self.assertRaises(error) as caught:
                console.say(line)
            self.assertIs(type(caught.exception), error)
            self.assert_told(console, "7", "0")
        self.assert_refused(console, NoPlace, "place", 1, "drop 1")

    def test_thirty_records(self):
        console = Console(((7,),))
        for _ in range(29):
            self.assertEqual(console.say("add 0"), "ok")
        self.assert_refused(console, TooManyRecords, "count", 30, "add 0")
        self.assert_refused(console, InvalidRecord, "record", (0, 0), "add 0 0")
        self.assertEqual(console.say("edits"), "29")

    def test_same_and_shortest_do_not_ask_for_columns(self):
        console = Console(((7,),))
        for column, against in itertools.product(range(4), range(4)):
            self.assertEqual(console.say(f"same up:{column} / up:{against}"), "yes" if column == against else "no")
            self.assertEqual(console.say(f"shortest up:{column}"), f"up:{column}")


if __name__ == "__main__":
    unittest.main()
