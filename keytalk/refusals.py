"""The numbers by which a call is refused."""

NOT_YOURS = -1
NO_SUCH = -2
NOT_OPEN = -6
NOTHING_THERE = -11
BUSY = -16
TWICE = -17
WRONG = -22
FULL = -28
SEVERAL = -33
NOT_WHOLE = -61
NOT_CLEAR = -71
TOO_MANY = -75
