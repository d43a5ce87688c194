"""The numbers that stand for refusals."""

NO_POINT = -2
WRONG_NUMBERS = -22
NO_ROOM = -28
GOES_AWAY = -33
NOT_SO_PLACED = -33
NOT_BEGUN = -61
TOO_LARGE = -75
