"""The numbers that are answered where a call is refused."""

NONE_THERE = -2
EMPTY = -6
NOT_RIDING = -16
SO_ALREADY = -17
WRONG = -22
FULL = -28
NOT_THIS_ONE = -33
