"""The numbers that a refused call answers."""

NO_SUCH = -2
NOT_BEGUN = -11
GONE_OR_UNWASHED = -16
NO_WASTE = -17
OUT_OF_RANGE = -22
TOO_MANY = -28
NOT_SO = -33
NOT_DONE = -74
