"""A worksheet: a table that is edited, with a log of its edits."""

from sortcuts.errors import (
    FindError, InvalidEdit, InvalidRecord, InvalidValue, LastRecord, LimitError, MissingColumn, NoPlace, NothingToUndo,
    TableError, TooManyEdits, TooManyRecords)
from sortcuts.limits import MOST_EDITS, MOST_RECORDS
from sortcuts.running import run
from sortcuts.tables import check_table, is_integer, is_place, is_record

# The word of each edit, and how many parts the edit has with it.
EDIT_FORMS = (("run", 2), ("add", 2), ("drop", 2), ("set", 4))


def has_edit_form(value):
    """Return True if the value looks like an edit, whatever stands behind its word."""
    if not isinstance(value, tuple) or len(value) == 0 or not isinstance(value[0], str):
        return False
    return (value[0], len(value)) in EDIT_FORMS


def check_edit_forms(edits):
    """Raise InvalidEdit unless the value is a tuple of values that look like edits."""
    if not isinstance(edits, tuple):
        raise InvalidEdit(None)
    for index, edit in enumerate(edits):
        if not has_edit_form(edit):
            raise InvalidEdit(index)


def check_place(table, place):
    """Raise NoPlace unless the value is a place of the table."""
    if not is_place(table, place):
        raise NoPlace(place)


def written_record(record):
    return " ".join([str(value) for value in record])


class Worksheet:
    """Keeps a table, and for each edit in its log the table before it."""

    def __init__(self, table):
        check_table(table)
        self.present = table
        self.past = ()
        self.busy = False

    @property
    def table(self):
        return self.present

    @property
    def edits(self):
        return len(self.past)

    def keep(self, table, edit):
        """Make this the present table, and append the edit that led to it to the log."""
        if len(self.past) == MOST_EDITS:
            raise TooManyEdits(MOST_EDITS)
        self.past = self.past + ((self.present, edit),)
        self.present = table

    def run_program(self, program):
        self.keep(run(self.present, program), ("run", program))

    def add(self, record):
        if not is_record(record) or len(record) != len(self.present[0]):
            raise InvalidRecord(record)
        if len(self.present) == MOST_RECORDS:
            raise TooManyRecords(MOST_RECORDS)
        self.keep(self.present + (record,), ("add", record))

    def drop(self, place):
        check_place(self.present, place)
        if len(self.present) == 1:
            raise LastRecord()
        self.keep(self.present[:place] + self.present[place + 1:], ("drop", place))

    def set_value(self, place, column, value):
        check_place(self.present, place)
        record = self.present[place]
        if not is_integer(column) or not 0 <= column < len(record):
            raise MissingColumn(column)
        if not is_integer(value):
            raise InvalidValue(value)
        changed = record[:column] + (value,) + record[column + 1:]
        self.keep(self.present[:place] + (changed,) + self.present[place + 1:], ("set", place, column, value))

    def perform(self, edit):
        """Perform a value that looks like an edit."""
        if edit[0] == "run":
            self.run_program(edit[1])
        elif edit[0] == "add":
            self.add(edit[1])
        elif edit[0] == "drop":
            self.drop(edit[1])
        else:
            self.set_value(edit[1], edit[2], edit[3])

    def do_all(self, edits, *, watch=None):
        check_edit_forms(edits)
        present, past, busy = self.present, self.past, self.busy
        self.busy = True
        try:
            for index, edit in enumerate(edits):
                self.perform(edit)
                if watch is not None:
                    watch(self, index)
            present, past = self.present, self.past
        finally:
            # Unless all edits were performed, these are still the table and the log from before the call.
            self.present, self.past, self.busy = present, past, busy

    def undo(self):
        if len(self.past) == 0:
            raise NothingToUndo()
        self.present = self.past[-1][0]
        self.past = self.past[:-1]

    def log(self):
        return tuple([edit for before, edit in self.past])

    def __len__(self):
        return len(self.present)

    def __eq__(self, other):
        return isinstance(other, Worksheet) and self.present == other.present

    def __str__(self):
        return "\n".join([written_record(record) for record in self.present])

    def __repr__(self):
        return f"Worksheet({len(self.present)}, {len(self.present[0])})"


def replay(table, log):
    sheet = Worksheet(table)
    if not isinstance(log, tuple):
        raise InvalidEdit(None)
    for index, edit in enumerate(log):
        perform_logged(sheet, edit, index)
    return sheet


def perform_logged(sheet, edit, index):
    """Perform the edit with this index; raise InvalidEdit if it is no edit or raises an error."""
    if not has_edit_form(edit):
        raise InvalidEdit(index)
    try:
        sheet.perform(edit)
    except (TableError, FindError, LimitError):
        raise InvalidEdit(index) from None
