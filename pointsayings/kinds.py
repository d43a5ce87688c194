"""The thirteen kinds of sayings, by their numbers, and how each is told."""

SAME = 0
LINE = 1
PARALLEL = 2
RIGHT = 3
EQUAL = 4
TIMES = 5
CIRCLE = 6
ANGLES = 7
AREAS = 8
THROUGH = 9
MIDDLE = 10
TOUCHES = 11
ALIKE = 12

# By the kind: of how many points it's said.
POINTS_OF_KIND = (2, 3, 4, 4, 4, 4, 4, 6, 6, 6, 3, 4, 6)

KINDS_RISING = (SAME, LINE, CIRCLE)
KINDS_OF_WAYS = (PARALLEL, RIGHT, EQUAL)
KINDS_OF_ALL = (SAME, LINE, PARALLEL, RIGHT, EQUAL, CIRCLE, MIDDLE)
KINDS_OF_MOST = (LINE, CIRCLE)
KINDS_KEPT_BY_ANY = (SAME, LINE, PARALLEL, AREAS, THROUGH, MIDDLE)

LARGEST_OF_TIMES = 1000


def is_kind(kind):
    return kind < len(POINTS_OF_KIND)


def may_be_said(kind, row):
    """Whether a saying of this kind may be told by this row, whatever points there are."""
    if not is_kind(kind):
        return False
    if kind != TIMES:
        return len(row) == POINTS_OF_KIND[kind]
    if len(row) != POINTS_OF_KIND[kind] + 2:
        return False
    return 1 <= row[4] <= LARGEST_OF_TIMES and 1 <= row[5] <= LARGEST_OF_TIMES
