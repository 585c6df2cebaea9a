"""The numbers that say whether a call was refused, and why."""

DONE = 0
NO_SUCH_FRAMES = -2
THERE_ALREADY = -17
WRONG_NUMBER = -22
NO_ROOM = -28
CANNOT_BE = -61
NO_LIST = -71
