"""The number that an answer begins with: all is well, or why the call is refused."""

DONE = 0
WRONG = -1
FULL = -2
IMPOSSIBLE = -3
NONE_THERE = -4
TOO_FEW = -5
