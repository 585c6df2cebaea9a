"""How many there may be at most, as the document says."""

LAST_SOURCE = 31
LAST_TRACK = 7

MOST_FRAMES = 16777216
MOST_PIECES = 256
MOST_UNDONE = 32

# Of a list that is read, and of a number in it.
MOST_BYTES = 65536
MOST_DIGITS = 8
