import random
import unittest

from sortcuts.errors import InvalidText, TableError
from sortcuts.notation import format_program, parse_program
from sortcuts.programs import is_program
from tests.checks import ErrorCase, Odd
from tests.program_samples import FAR, PROGRAMS, REVERSE, nest, repeat
from tests.reference import few_steps, random_programs

# Programs and their written forms.
WRITTEN = (
    ((), ""),
    ((("up", 0),), "up:0"),
    ((("up", 3),), "up:3"),
    ((("down", 0), ("down", 3)), "down:0 down:3"),
    ((REVERSE,), "reverse"),
    ((("restore",),), "restore"),
    ((("first", 2), ("first", 29)), "first:2 first:29"),
    ((("last", 10), ("last", 20)), "last:10 last:20"),
    ((repeat(1),), "( )x1"),
    ((repeat(FAR),), "( )x1000000000000000000000000000000"),
    ((repeat(FAR - 1, REVERSE),), "( reverse )x999999999999999999999999999999"),
    ((("up", 0), repeat(20, REVERSE, ("last", 3))), "up:0 ( reverse last:3 )x20"),
    ((("down", 1), repeat(2)), "down:1 ( )x2"),
    ((repeat(2), repeat(3)), "( )x2 ( )x3"),
    ((repeat(2, repeat(3)),), "( ( )x3 )x2"),
    ((repeat(2, repeat(3), REVERSE, repeat(4)), ("up", 1)), "( ( )x3 reverse ( )x4 )x2 up:1"),
    ((repeat(2, repeat(3, repeat(4, ("up", 0)))),), "( ( ( up:0 )x4 )x3 )x2"),
    ((repeat(2, repeat(3, repeat(4))),), "( ( ( )x4 )x3 )x2"),
)

# Texts that are the written form of no program.
WRONG = (
    # leading zeros
    "up:00", "up:01", "up:03", "down:00", "first:02", "first:002", "last:029", "( )x01", "( )x00", "( reverse )x02",
    # spaces
    " ", "  ", " up:0", "up:0 ", "up:0  up:1", " up:0 up:1", "up:0 up:1 ", "(  )x2", "( up:0  )x2", "( )x2 ", " ( )x2",
    "( )  x2", "( ) x2", "( )x 2", "up :0", "up: 0", "up:0 \n", "up:0\tup:1", "up:0\nup:1", "up:0\n", "\tup:0",
    # numbers
    "up:+0", "up:-0", "up:+1", "up:-1", "down:-1", "first:+3", "last:-3", "( )x+2", "( )x-2", "( )x-1", "up:0.0", "up:1e0",
    "up:0x1", "first:1_0", "up:a", "up:", "down:", "first:", "last:", "up:1,2", "up:0,", "up:0:1", "up::0", "up:0:", ":0",
    "up:4", "up:5", "up:10", "down:4", "down:30", "first:0", "first:1", "first:30", "first:100", "last:0", "last:1",
    "last:30", "( )x0", "( reverse )x0", "( )x1000000000000000000000000000001", "( )x9999999999999999999999999999999",
    "( )x" + "9" * 40, "( )x1" + "0" * 39, "up:" + "1" * 40, "up:" + "0" * 40, "first:2" + "0" * 39, "( )x" + "0" * 39 + "1",
    "( )x" + "9" * 1900, "up:" + "0" * 1900, "last:" + "3" * 1900, "( )x" + "9" * 5000,
    # brackets
    "(", ")", "( )", "()", "()x2", "(up:0)x2", "( up:0)x2", "(up:0 )x2", "( up:0 )", "( up:0", "up:0 )x2", ")x2", ")x2 (",
    "( )x2 )x2", "( ( )x2", "( ( )x2 )", "( )x2)x2", "( )x2( )x2", "( )x", "( )X2", "( )2", "( )*2", "( )x2x2", "( )x2:2",
    "[ ]x2", "{ up:0 }x2", "( )x2 (", "( up:0 )x2 ( )", ")x2 up:0", "x2", ")x2 ( )x2 (", "( ( up:0 )x2", "( )x( )x2",
    "( (", ") )", "( up:0 ( )x2", "( )x2 )",
    # words
    "up", "down", "first", "last", "repeat", "place", "sort:1", "Up:0", "UP:0", "uP:0", "Reverse", "REVERSE", "reversed",
    "revers", "restor", "restores", "reverse:", "reverse:0", "restore:0", "restore:", "reverse()", "up0", "up=0", "up;0",
    "up:0;up:1", "up:0,up:1", "up:0/up:1", "repeat:2", "repeat:2:3", "place:0", "left:3", "firstly:3", "0", "1", ":",
    "0:up", "reverse,restore", "reverserestore", "reverse-restore", "up(0)", "('up', 0)", "(('reverse',),)", "()", "-", "~",
    "up:None", "first:three", "None", "True", "up:True", "up:False",
    # right at first, wrong behind
    "up:0 up:4", "reverse restore re", "( reverse )x2 first:1", "( reverse ( first:30 )x2 )x3", "( ( ( sort:1 )x2 )x2 )x2",
    # too long, nested too deep
    " ".join(["up:0"] * 401), "( " + " ".join(["up:0"] * 400) + " )x2", " ".join(["up:0"] * 399) + " ( up:1 )x1",
    " ".join(["( )x1"] * 401), "( ( ( ( )x2 )x2 )x2 )x2", "( ( ( ( reverse )x2 )x2 )x2 )x2",
    "reverse ( ( ( ( ( )x1 )x1 )x1 )x1 )x1", "( " * 999, ")x2 " * 499, "( " * 300 + ")x2 " * 299 + ")x2",
)

NO_STRINGS = (
    None, True, False, 0, 1, 10 ** 39, (), [], {}, set(), b"", b"up:0", ("up:0",), ["up:0"], (("up", 0),), ((),),
    {"up:0": 1}, len, str, object(), Odd(),
)


class FormatTest(unittest.TestCase):
    def test_example(self):
        self.assertEqual(format_program((("up", 0), repeat(20, REVERSE, ("last", 3)))), "up:0 ( reverse last:3 )x20")

    def test_written_forms(self):
        for program, text in WRITTEN:
            with self.subTest(text):
                self.assertEqual(format_program(program), text)
                self.assertIs(type(format_program(program)), str)

    def test_every_plain_command(self):
        for column in range(4):
            self.assertEqual(format_program((("up", column), ("down", column))), f"up:{column} down:{column}")
        for size in range(2, 30):
            self.assertEqual(format_program((("first", size), ("last", size))), f"first:{size} last:{size}")

    def test_four_hundred_commands(self):
        self.assertEqual(format_program((REVERSE,) * 400), " ".join(["reverse"] * 400))
        self.assertEqual(format_program((repeat(FAR),) * 400), " ".join(["( )x1" + "0" * 30] * 400))

    def test_by_name_and_equal_calls(self):
        for program, text in WRITTEN:
            self.assertEqual(format_program(program=program), format_program(program))


class ParseTest(ErrorCase):
    def test_examples(self):
        self.assertEqual(parse_program("down:1 ( )x2"), (("down", 1), ("repeat", 2, ())))
        self.assert_error(InvalidText, "text", "up:00", parse_program, "up:00")

    def test_written_forms(self):
        for program, text in WRITTEN:
            with self.subTest(text):
                self.assertEqual(parse_program(text), program)

    def test_there_and_back(self):
        for program in PROGRAMS + tuple(random_programs(31, 400, columns=4)):
            with self.subTest(program):
                self.assertEqual(parse_program(format_program(program)), program)

    def test_wrong_texts(self):
        for text in WRONG:
            with self.subTest(text):
                self.assert_error(InvalidText, "text", text, parse_program, text)
                self.assert_error(InvalidText, "text", text, parse_program, text=text)

    def test_wrong_words_beside_right_ones_and_in_repeats(self):
        for word in WRONG:
            if "(" not in word and ")" not in word:
                for text in (f"reverse {word}", f"{word} up:0", f"( {word} )x2", f"( ( up:0 {word} restore )x3 )x2"):
                    with self.subTest(text):
                        self.assert_error(InvalidText, "text", text, parse_program, text)

    def test_values_that_are_no_strings(self):
        for value in NO_STRINGS:
            with self.subTest(repr(value)):
                with self.assertRaises(InvalidText) as caught:
                    parse_program(value)
                self.assertIs(caught.exception.text, value)

    def test_every_number(self):
        for word, least, most in (("up", 0, 3), ("down", 0, 3), ("first", 2, 29), ("last", 2, 29)):
            for number in range(40):
                text = f"{word}:{number}"
                with self.subTest(text):
                    if least <= number <= most:
                        self.assertEqual(parse_program(text), ((word, number),))
                    else:
                        self.assert_error(InvalidText, "text", text, parse_program, text)

    def test_times(self):
        for times in (1, 2, 9, 10, 11, 10 ** 29, FAR - 1, FAR):
            self.assertEqual(parse_program(f"( )x{times}"), (repeat(times),))
        for times in (0, -1, FAR + 1, 10 ** 31, 10 ** 40 - 1):
            self.assert_error(InvalidText, "text", f"( )x{times}", parse_program, f"( )x{times}")

    def test_nested_programs(self):
        for inner in ("", "up:0 "):
            for programs in range(1, 9):
                text = "( " * (programs - 1) + inner + " ".join([")x2"] * (programs - 1))
                with self.subTest(text):
                    if programs <= 4:
                        self.assertEqual(parse_program(text.strip()), nest(programs, *((("up", 0),) if inner else ())))
                    else:
                        self.assert_error(InvalidText, "text", text, parse_program, text)

    def test_four_hundred_commands(self):
        self.assertEqual(parse_program(" ".join(["up:3"] * 400)), (("up", 3),) * 400)
        self.assertEqual(parse_program("( " + " ".join(["up:3"] * 399) + " )x7"), (repeat(7, *(("up", 3),) * 399),))
        text = "( " + " ".join(["up:3"] * 399) + " )x7 reverse"
        self.assert_error(InvalidText, "text", text, parse_program, text)

    def test_other_digits_and_spaces_than_the_plain_ones(self):
        for text in ("up:\u0661", "first:\u00b2", "( )x\uff12", "up:0\u00a0up:1", "up:0\u2003", "\u00fcp:0"):
            self.assert_error(InvalidText, "text", text, parse_program, text)

    def test_a_text_is_read_only_if_it_is_what_is_written(self):
        # Parts of written forms in any sequence: few are written forms, and each of those is that of its program.
        source = random.Random(32)
        parts = ("up", ":", "0", "3", "(", ")", " )", "x", ")x", "2", "12", " ", " ", " ", "reverse", "first:3", "( ", " )x2")
        found = 0
        for _ in range(20000):
            text = "".join(source.choice(parts) for _ in range(source.randint(1, 8)))
            try:
                program = parse_program(text)
            except InvalidText as wrong:
                self.assertEqual(wrong.text, text)
            else:
                found += 1
                self.assertTrue(is_program(program))
                self.assertEqual(format_program(program), text)
        self.assertGreater(found, 100)

    def test_kinds_of_values(self):
        program = parse_program("up:0 ( first:3 )x2")
        self.assertEqual([type(program), type(program[0]), type(program[1][2])], [tuple] * 3)
        self.assertEqual([type(program[0][1]), type(program[1][1])], [int, int])

    def test_by_name_and_equal_calls(self):
        for program, text in WRITTEN:
            self.assertEqual(parse_program(text=text), parse_program(text))

    def test_long_texts_get_their_answer_at_once(self):
        with few_steps():
            for text in ("( " * 1000, "( )x1 " * 333, ")x1 " * 500, "(" * 2000, ":" * 2000, " " * 2000, "0" * 2000):
                self.assert_error(InvalidText, "text", text, parse_program, text)

    def test_base_classes(self):
        with self.assertRaises(TableError):
            parse_program("walk")
        with self.assertRaises(ValueError):
            parse_program(None)


if __name__ == "__main__":
    unittest.main()
