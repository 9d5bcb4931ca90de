"""The numbers by which calls are refused."""

NO_SUCH = -2
NO_CHANGE = -6
NOT_BEGUN = -11
OUT_OF_RANGE = -22
TOO_MANY = -28
NONE_THERE = -33
