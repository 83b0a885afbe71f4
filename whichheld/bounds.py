"""The bounds of programs, families, tables, what is heard, and benches."""

MAX_NAME = 8
MAX_TIMES = 8
MAX_DEEP = 3
MAX_NOTS = 2
MAX_BY = 6
MAX_PLACES = 24
MAX_WEIGHT = 30
MAX_RESTS = 2
MAX_COMPARINGS = 2
MAX_NEST = 3
MAX_FAMILY = 5
MAX_PERIOD = 10 ** 6
MAX_HEARD = 40
MAX_LIES = 1
MAX_EDITS = 60
BATCH = 20
