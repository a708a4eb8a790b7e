"""The numbers that calls are refused with; some stand for more than one reason."""

WAS_SENT_OFF = -4
NO_PERIOD = -11
NO_KICKS = -11
NOT_NOW = -16
HAS_KICKED = -17
OUT_OF_RANGE = -22
USED_UP = -28
NO_WINDOW = -29
TOO_EARLY = -35
NOT_THEIR_TURN = -37
MATCH_OVER = -41
NOT_ON = -61
NOT_ON_BENCH = -62
