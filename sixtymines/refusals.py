"""The numbers below 0 that calls answer."""

HIT_A_MINE = -1
NO_WAY = -1
NOT_SOLVED = -1
NOT_ALLOWED = -2
NOTHING_CLOSED = -2
NOT_IN_RANGE = -8
GAME_IS_OVER = -9
