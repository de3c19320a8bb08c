"""The numbers that answer a refusal, and the bounds of what is handed in."""

MISSING = -2
WRONG = -22
FULL = -28

ANY = 255

MOST_SERIES = 64
MOST_RULES = 32
MOST_SILENCES = 32
MOST_MEASURED = 64

LAST_KIND = 31
LAST_GROUP = 15
LAST_WHAT = 5
LAST_LEVEL = 3

# 2 to the 24th, 40th and 50th, written out as a file's top holds plain values alone.
LONGEST_SPAN = 16777216
LAST_TIME = 1099511627776
WIDEST_VALUE = 1099511627776
WIDEST_BOUND = 1125899906842624
