"""Which slants keep what's said."""

from pointsayings.kinds import KINDS_KEPT_BY_ANY, is_kind
from pointsayings.places import LARGEST_TOLD
from pointsayings.ways import lean, square


def may_be_asked(kind, a, b, c, d):
    """Whether it may be asked if the slant by a, b, c, d keeps this kind."""
    if not is_kind(kind):
        return False
    if any([abs(number) > LARGEST_TOLD for number in (a, b, c, d)]):
        return False
    return a * d - b * c != 0


def keeps_shapes(a, b, c, d):
    """Whether the slant does nothing but turn, stretch and turn over."""
    # What comes of one way across and of one way up is as long and as much at right angles as these were.
    across = (a, c)
    up = (b, d)
    return square(across) == square(up) and lean(across, up) == 0


def is_kept(kind, a, b, c, d):
    """Whether the slant keeps this kind, whatever points there are."""
    return kind in KINDS_KEPT_BY_ANY or keeps_shapes(a, b, c, d)
