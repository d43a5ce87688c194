"""Slanting and bending, both by nine numbers m0 to m8."""

LARGEST_OF_NINE = 10


def nine_of_slant(a, b, c, d, e, f):
    """The nine numbers that bend the plane as these six slant it."""
    # Its divisor is 1 everywhere, so no place goes away, and the nine's measure is a d - b c.
    return [a, b, e, c, d, f, 0, 0, 1]


def measure(m):
    """The measure of nine numbers."""
    first = m[0] * (m[4] * m[8] - m[5] * m[7])
    second = m[1] * (m[3] * m[8] - m[5] * m[6])
    third = m[2] * (m[3] * m[7] - m[4] * m[6])
    return first - second + third


def may_bend(row):
    """Whether the plane may be bent by this row."""
    if len(row) != 9:
        return False
    if any([abs(number) > LARGEST_OF_NINE for number in row]):
        return False
    return measure(row) != 0


def bent(place, m):
    """Where the nine numbers m bring the place: across and up, each by the last, which is 0 if it goes away."""
    # Everything is taken w times, which keeps all three whole numbers.
    x = place[0]
    y = place[1]
    w = place[2]
    across = m[0] * x + m[1] * y + m[2] * w
    up = m[3] * x + m[4] * y + m[5] * w
    divisor = m[6] * x + m[7] * y + m[8] * w
    return (across, up, divisor)
