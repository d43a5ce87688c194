"""A point's place, kept as its three numbers: a tuple x, y, w."""

LARGEST_TOLD = 1000
LARGEST_KEPT = 1000000000


def greatest_common(a, b):
    """The greatest whole number that divides both; 0 if both are 0."""
    greater = abs(a)
    lesser = abs(b)
    while lesser != 0:
        rest = greater % lesser
        greater = lesser
        lesser = rest
    return greater


def three_numbers(x, y, w):
    """The three numbers of the place x by w across, y by w up; w isn't 0, but may be below."""
    common = greatest_common(greatest_common(x, y), w)
    if w < 0:
        common = -common
    return (x // common, y // common, w // common)


def may_be_told(x, y, w):
    """Whether a point may be placed by these numbers."""
    return abs(x) <= LARGEST_TOLD and abs(y) <= LARGEST_TOLD and 1 <= w <= LARGEST_TOLD


def is_too_large(place):
    return abs(place[0]) > LARGEST_KEPT or abs(place[1]) > LARGEST_KEPT or place[2] > LARGEST_KEPT
