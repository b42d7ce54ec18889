"""The errors of the package, each with the one attribute that says what is wrong."""


class TableError(ValueError):
    """A value does not have the form that it must have."""


class InvalidTable(TableError):
    """The index is that of the first wrong element, or None if the value as a whole is wrong."""

    def __init__(self, index):
        self.index = index


class InvalidColumns(TableError):
    """The value is not a number of columns that can be sorted by."""

    def __init__(self, columns):
        self.columns = columns


class InvalidOrder(TableError):
    """The index is that of the first wrong element, or None if the value as a whole is wrong."""

    def __init__(self, index):
        self.index = index


class InvalidProgram(TableError):
    """The index is that of the first wrong command, or None if the value as a whole is wrong."""

    def __init__(self, index):
        self.index = index


class InvalidNumber(TableError):
    """The value is not the number of an order."""

    def __init__(self, number):
        self.number = number


class InvalidPlaces(TableError):
    """The index is that of the first wrong place, or None if the value as a whole is wrong."""

    def __init__(self, index):
        self.index = index


class InvalidText(TableError):
    """The value is not the written form of a program."""

    def __init__(self, text):
        self.text = text


class InvalidLimit(TableError):
    """The value is not a limit for the records of a table."""

    def __init__(self, value):
        self.value = value


class InvalidRecord(TableError):
    """The value is not a record that fits the table."""

    def __init__(self, record):
        self.record = record


class InvalidValue(TableError):
    """The value cannot stand in a record."""

    def __init__(self, value):
        self.value = value


class InvalidEdit(TableError):
    """The index is that of the first wrong edit, or None if the value as a whole is wrong."""

    def __init__(self, index):
        self.index = index


class InvalidCommand(TableError):
    """The line is not a command of the console."""

    def __init__(self, line):
        self.line = line


class FindError(LookupError):
    """Something that was asked for is not there."""


class MissingColumn(FindError):
    """There is no such column."""

    def __init__(self, column):
        self.column = column


class NoPlace(FindError):
    """The table has no such place."""

    def __init__(self, place):
        self.place = place


class NothingToUndo(FindError):
    """The log has no edit that could be taken back."""


class LimitError(ArithmeticError):
    """A table or a log would become too long or too short."""


class TooManyRecords(LimitError):
    """The count is the number of records that is too great."""

    def __init__(self, count):
        self.count = count


class TooManyEdits(LimitError):
    """The count is the number of edits that the log has already."""

    def __init__(self, count):
        self.count = count


class LastRecord(LimitError):
    """The only record of a table cannot be removed."""
