"""Pipelines: objects that keep a program, count its runs, and limit the tables that it runs on."""

from sortcuts.comparing import same
from sortcuts.errors import InvalidLimit, TooManyRecords
from sortcuts.limits import MOST_RECORDS
from sortcuts.notation import format_program, parse_program
from sortcuts.programs import check_program, is_program
from sortcuts.running import each_table, run
from sortcuts.tables import check_table, is_integer


def check_limit(value):
    """Raise InvalidLimit unless the value is a number of records that a table may have."""
    if not is_integer(value) or not 1 <= value <= MOST_RECORDS:
        raise InvalidLimit(value)


class Pipeline:
    """Keeps a program."""

    MOST = 400

    def __init__(self, *commands):
        check_program(commands)
        self.program = commands

    @staticmethod
    def is_command(value):
        return is_program((value,))

    @classmethod
    def parse(cls, text):
        return cls.made_of(parse_program(text))

    @classmethod
    def made_of(cls, program):
        """Return a new pipeline of the class on which this is called, also if it is called on an object."""
        return cls(*program)

    @property
    def commands(self):
        return self.program

    @commands.setter
    def commands(self, value):
        check_program(value)
        self.program = value

    def run(self, table):
        return run(table, self.program)

    def each_table(self, table):
        yield from each_table(table, self.program)

    def then(self, *commands):
        return self.made_of(self.program + commands)

    def describe(self):
        return "pipeline"

    def __eq__(self, other):
        return isinstance(other, Pipeline) and same(self.program, other.program)

    def __len__(self):
        return len(self.program)

    def __str__(self):
        return str(format_program(self.program))

    def __repr__(self):
        return f"Pipeline({len(self.program)})"


class CountedPipeline(Pipeline):
    """Counts how often it ran."""

    def __init__(self, *commands):
        super().__init__(*commands)
        self.done = 0

    @property
    def runs(self):
        return self.done

    def run(self, table):
        found = super().run(table)
        self.done += 1
        return found

    def describe(self):
        return "counted pipeline"


class LimitedPipeline(Pipeline):
    """Runs only on tables with no more records than its limit."""

    def __init__(self, *commands):
        super().__init__(*commands)
        self.most = MOST_RECORDS

    @property
    def limit(self):
        return self.most

    @limit.setter
    def limit(self, value):
        check_limit(value)
        self.most = value

    def run(self, table):
        check_table(table)
        if len(table) > self.most:
            raise TooManyRecords(len(table))
        return super().run(table)

    def describe(self):
        return "limited pipeline"


class CountedLimitedPipeline(CountedPipeline, LimitedPipeline):
    """Counts how often it ran, on tables with no more records than its limit."""

    @property
    def runs(self):
        return self.done

    @property
    def limit(self):
        return self.most

    @limit.setter
    def limit(self, value):
        check_limit(value)
        self.most = value

    def run(self, table):
        return super().run(table)

    def describe(self):
        return "counted limited pipeline"


def assign(pipeline, *, commands=None, limit=None):
    # Both are checked first, so that an error leaves both as they were.
    if commands is not None:
        check_program(commands)
    if limit is not None:
        check_limit(limit)
    if commands is not None:
        pipeline.commands = commands
    if limit is not None:
        pipeline.limit = limit
