"""A point's place, kept as its three numbers: a tuple x, y, w."""

LARGEST_TOLD = 1000
LARGEST_KEPT = 1000000000


def greatest_common(a, b):
    """The greatest whole number that divides both; 0 if both are 0."""
    greater = abs(a)
    lesser = abs(b)
    while lesser != 0:
        rest = greater % lesser
        greater = lesser
        lesser = rest
    return greater


def fraction(above, below):
    """The fraction as it's told; below isn't 0, but may be less."""
    common = greatest_common(above, below)
    if below < 0:
        common = -common
    return [above // common, below // common]


def three_numbers(x, y, w):
    """The three numbers of the place x by w across, y by w up; w isn't 0, but may be below."""
    common = greatest_common(greatest_common(x, y), w)
    if w < 0:
        common = -common
    return (x // common, y // common, w // common)


def may_be_told(x, y, w):
    """Whether a point may be placed by these numbers."""
    return abs(x) <= LARGEST_TOLD and abs(y) <= LARGEST_TOLD and 1 <= w <= LARGEST_TOLD


def is_too_large(place):
    return abs(place[0]) > LARGEST_KEPT or abs(place[1]) > LARGEST_KEPT or place[2] > LARGEST_KEPT


def common_below(places):
    """The least number that each w of these places divides."""
    common = 1
    for place in places:
        w = place[2]
        common = common // greatest_common(common, w) * w
    return common


def whole_places(places):
    """The places with everything stretched by their common_below: x, y, both whole numbers."""
    common = common_below(places)
    return [(place[0] * (common // place[2]), place[1] * (common // place[2])) for place in places]
