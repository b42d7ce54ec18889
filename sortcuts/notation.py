"""The written form of programs."""

from sortcuts.errors import InvalidText
from sortcuts.limits import MOST_TIMES
from sortcuts.programs import BARE_WORDS, check_program, is_program


def written_command(command):
    if command[0] in BARE_WORDS:
        return command[0]
    if command[0] == "repeat":
        inside = [written_command(inner) for inner in command[2]]
        return " ".join(["("] + inside + [f")x{command[1]}"])
    return f"{command[0]}:{command[1]}"


def format_program(program):
    check_program(program)
    return " ".join([written_command(command) for command in program])


def read_number(digits):
    """Return the number that is written in this way, None if there is none or it is too great for any command."""
    if not digits.isascii() or not digits.isdigit():
        return None
    if len(digits) > 1 and digits[0] == "0":
        return None
    # Python refuses to read numbers of some thousand digits.
    if len(digits) > len(str(MOST_TIMES)):
        return None
    return int(digits)


def read_command(word):
    """Return the command that is written in this way, something that is no command if there is none."""
    if word in BARE_WORDS:
        return (word,)
    name, colon, digits = word.partition(":")
    return (name, read_number(digits))


def read_words(words):
    """Return the program that is written in these words, something that is no program if there is none."""
    # One list of commands for the outermost program, and one for each repeat that has not ended yet.
    nested = [[]]
    for word in words:
        if word == "(":
            nested.append([])
        elif word.startswith(")x"):
            program = tuple(nested.pop())
            if not nested:
                return None
            nested[-1].append(("repeat", read_number(word[2:]), program))
        else:
            nested[-1].append(read_command(word))
    return tuple(nested[0]) if len(nested) == 1 else None


def parse_program(text):
    if not isinstance(text, str):
        raise InvalidText(text)
    program = read_words(text.split(" ")) if text != "" else ()
    if not is_program(program):
        raise InvalidText(text)
    return program
