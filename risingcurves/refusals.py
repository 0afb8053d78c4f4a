"""The numbers that calls are refused by; one number may tell different things of different calls."""

NO_LOT_NUMBER = -1
NO_SUCH_STEP = -1
NO_SUCH_RESULT = -1
NOT_THERE = -2
OUT_OF_RANGE = -3
FULL = -4
TOO_LATE = -4
TURNED_OUT_OF_RANGE = -4
NO_READINGS = -5
NO_LINE = -6
NO_CONTROL = -6
NO_SHARED_DOSE = -6
CONTROL_OFF_LINE = -7
CLASHING = -8
NO_SUCH_DOSE = -9
NOT_GOOD_NOW = -9
