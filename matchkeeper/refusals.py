"""The numbers that calls are refused with; some stand for more than one reason."""

WAS_SENT_OFF = -4
NO_PERIOD = -11
NOT_NOW = -16
OUT_OF_RANGE = -22
USED_UP = -28
NO_WINDOW = -29
TOO_EARLY = -35
NOT_ON = -61
NOT_ON_BENCH = -62
