"""How the calls are told, one behind another, in one list of whole numbers."""

BEGIN = 0
POINT = 1
PUT = 2
OUT = 3
SLANT = 4
BEND = 5
POINTS = 6
WHERE = 7
SAYS = 8
ALL = 9
MOST = 10
KEEPS = 11
CROSS = 12
CENTRE = 13

# By the call's number: how many whole numbers it has ahead of its row, if it has one.
PLAIN_NUMBERS = (0, 3, 4, 0, 6, 0, 0, 1, 1, 1, 1, 5, 4, 3)

CALLS_WITH_ROW = (BEND, SAYS)


def split_calls(calls):
    """Each call as its number, its whole numbers and its row (empty, if it has none)."""
    told = []
    start = 0
    while start < len(calls):
        call = calls[start]
        end = start + 1 + PLAIN_NUMBERS[call]
        numbers = calls[start + 1:end]
        row = []
        if call in CALLS_WITH_ROW:
            row_start = end + 1
            end = row_start + calls[end]
            row = calls[row_start:end]
        told.append((call, numbers, row))
        start = end
    return told
