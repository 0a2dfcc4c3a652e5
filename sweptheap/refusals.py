"""The numbers that refused calls answer."""

OUT_OF_RANGE = -1
NOT_IDLE = -3
NO_SUCH_SLOT = -4
NO_OBJECT = -5
NO_FREE_CELL = -6
