"""What four points on a line come to, and the centre of the circle through three points."""

from pointsayings.places import fraction
from pointsayings.sayings import is_line
from pointsayings.ways import square, turn, way

LARGEST_ANSWERED = 1000000000000000


def is_too_large_to_tell(numbers):
    return any([abs(number) > LARGEST_ANSWERED for number in numbers])


def may_be_crossed(p):
    """Whether the four are at different places on one line."""
    return len(set(p)) == 4 and is_line([p[0], p[1], p[2]]) and is_line([p[0], p[1], p[3]])


def cross_fraction(p):
    """The part that a's way to c is of b's, by the part that a's way to d is of b's."""
    # On one line all ways are parts of one another as much as they're so across, or up where it goes straight up.
    side = 1 if p[0][0] == p[1][0] else 0
    a = p[0][side]
    b = p[1][side]
    c = p[2][side]
    d = p[3][side]
    return fraction((c - a) * (d - b), (c - b) * (d - a))


def centre_fractions(p, stretched):
    """How far across and up the centre is, and the square of how far it's from each; p are stretched so many times."""
    to_b = way(p[0], p[1])
    to_c = way(p[0], p[2])
    # Seen from a the centre is at across by below, up by below: it leans on each way by half of the way's square.
    below = 2 * turn(to_b, to_c)
    across = to_c[1] * square(to_b) - to_b[1] * square(to_c)
    up = to_b[0] * square(to_c) - to_c[0] * square(to_b)
    told = fraction(p[0][0] * below + across, below * stretched)
    told.extend(fraction(p[0][1] * below + up, below * stretched))
    told.extend(fraction(across * across + up * up, below * stretched * below * stretched))
    return told
