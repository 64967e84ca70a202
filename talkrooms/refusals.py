"""The numbers by which calls are refused."""

NOT_ALLOWED = -1
UNKNOWN_ROOM = -2
ALREADY_SO = -17
INVALID = -22
FULL = -28
NOT_THERE = -61
