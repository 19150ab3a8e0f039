"""The refusals: each a number below 0, answered alone. ALLOWED says that none fits."""

ALLOWED = 0
BAD_NUMBER = -1
BAD_KIND = -2
BAD_CONSTANT = -3
TOO_MANY_READS = -4
BAD_NAME = -5
READ_TWICE = -6
NO_ROOM = -7
NO_CELL = -8
BAD_SEED = -9
BAD_POSITION = -10
NO_MOMENT = -11
NO_CHANGE = -12
HISTORY_FULL = -13
