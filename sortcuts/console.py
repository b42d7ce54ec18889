"""The console: commands as lines of text, performed on a worksheet."""

from sortcuts.comparing import same
from sortcuts.errors import InvalidCommand, InvalidText
from sortcuts.notation import format_program, parse_program, read_number
from sortcuts.shortest import shortest
from sortcuts.worksheet import Worksheet, written_record

MOST_DIGITS = 20
BARE_COMMANDS = ("undo", "table", "edits")


def read_place(word):
    """Return the number that is written in this way, also for a column; None if there is none."""
    return read_number(word) if len(word) <= MOST_DIGITS else None


def read_value(word):
    if not word.startswith("-"):
        return read_place(word)
    number = read_place(word[1:])
    return None if number is None or number == 0 else -number


def read_program(words):
    """Return the program that is written in these words, None if there is none or it has no commands."""
    try:
        program = parse_program(" ".join(words))
    except InvalidText:
        return None
    return program if len(program) > 0 else None


def read_programs(words):
    """Return a list of the programs before and behind the one slash, None in place of each that is wrong."""
    if words.count("/") != 1:
        return [None]
    at = words.index("/")
    return [read_program(words[:at]), read_program(words[at + 1:])]


def read_parts(name, words):
    """Return a list of what stands behind the name of a command, None in place of each part that is wrong."""
    if name in ("run", "shortest"):
        return [read_program(words)]
    if name == "same":
        return read_programs(words)
    if name == "add" and words:
        values = [read_value(word) for word in words]
        return [None if None in values else tuple(values)]
    if name == "drop" and len(words) == 1:
        return [read_place(words[0])]
    if name == "set" and len(words) == 3:
        return [read_place(words[0]), read_place(words[1]), read_value(words[2])]
    if name in BARE_COMMANDS and len(words) == 0:
        return []
    return [None]


def read_line(line):
    """Return the command as a tuple of its name and its parts."""
    if not isinstance(line, str):
        raise InvalidCommand(line)
    words = line.split(" ")
    parts = read_parts(words[0], words[1:])
    if None in parts:
        raise InvalidCommand(line)
    return tuple(words[:1] + parts)


def written_table(table):
    return "; ".join([written_record(record) for record in table])


class Console:
    """Keeps a worksheet."""

    def __init__(self, table):
        self.sheet = Worksheet(table)

    def say(self, line):
        command = read_line(line)
        if command[0] == "table":
            return written_table(self.sheet.table)
        if command[0] == "edits":
            return str(self.sheet.edits)
        if command[0] == "same":
            return "yes" if same(command[1], command[2]) else "no"
        if command[0] == "shortest":
            return format_program(shortest(command[1])) or "-"
        self.change(command)
        return "ok"

    def change(self, command):
        """Take back an edit or perform one: the other commands have the form of edits."""
        if command[0] == "undo":
            self.sheet.undo()
        else:
            self.sheet.perform(command)
