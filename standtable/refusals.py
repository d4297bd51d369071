"""The numbers that calls are refused with, in the order in which the first of several is chosen."""

WRONG_FORM = -1
NO_ORDER = -2
NOT_THERE = -4
NO_ROOM = -3
# Order k that another row's key bars refuses with k less than this.
KEY_TAKEN = -20
SAME_KEYS = -5
MARKS_BAR = -9
NO_TABLE = -6
