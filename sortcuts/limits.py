"""The limits of tables, orders, programs and worksheets."""

MOST_COLUMNS = 5
MOST_KEYS = 4
MOST_RECORDS = 30
LEAST_SIZE = 2
MOST_SIZE = 29
MOST_COMMANDS = 400
MOST_TIMES = 10 ** 30
MOST_EDITS = 500
