"""The numbers that refused calls answer."""

OUT_OF_RANGE = -1
TOO_LONG = -2
NO_SUCH_THING = -4
NO_ROW = -5
NO_CHART = -6
ROW_IS_LEFT = -12
NOT_BEGUN = -13
