"""The thirteen kinds of sayings, asked of places (x, y) in whole numbers.

None of them changes when all places are stretched alike; so fractions are stretched till they are whole numbers.
"""

from pointsayings.bending import measure
from pointsayings.kinds import TIMES
from pointsayings.ways import lean, multiplied, square, turn, way


def is_same(p):
    return p[0] == p[1]


def is_line(p):
    return turn(way(p[0], p[1]), way(p[0], p[2])) == 0


def is_parallel(p):
    return turn(way(p[0], p[1]), way(p[2], p[3])) == 0


def is_right(p):
    return lean(way(p[0], p[1]), way(p[2], p[3])) == 0


def is_times(p, m, n):
    # Both sides are squares of lengths that are 0 or more, so the lengths are equal just if these are.
    return square(way(p[0], p[1])) * n * n == square(way(p[2], p[3])) * m * m


def is_equal(p):
    return is_times(p, 1, 1)


def is_circle(p):
    # Circles and lines through p[0] are all r (x x + y y) + s x + t y = 0, seen from there, with r, s, t not all 0:
    # one goes through the three others just if the measure of these nine numbers is 0.
    nine = []
    for other in p[1:]:
        seen = way(p[0], other)
        nine.extend([square(seen), seen[0], seen[1]])
    return measure(nine) == 0


def is_angles(p):
    to_a = way(p[1], p[0])
    to_c = way(p[1], p[2])
    to_d = way(p[4], p[3])
    to_f = way(p[4], p[5])
    return turn(to_a, to_c) * lean(to_d, to_f) == turn(to_d, to_f) * lean(to_a, to_c)


def is_areas(p):
    return turn(way(p[0], p[1]), way(p[0], p[2])) == turn(way(p[3], p[4]), way(p[3], p[5]))


def line_numbers(a, b):
    """Three numbers r, s, t such that r x + s y + t is 0 just on the line; all three are 0 if it's one place."""
    return [a[1] - b[1], b[0] - a[0], turn(a, b)]


def is_through(p):
    # The measure is 0 just if one of the lines is mixed from the others (or is none, by three times 0): then it goes
    # through the point where these meet, or is parallel to them.
    return measure(line_numbers(p[0], p[1]) + line_numbers(p[2], p[3]) + line_numbers(p[4], p[5])) == 0


def is_middle(p):
    return way(p[1], p[0]) == way(p[0], p[2])


def is_touches(p):
    along = way(p[0], p[1])
    # How far the line is from c is this turn by how long the way along it is.
    turned = turn(along, way(p[0], p[2]))
    return turned * turned == square(along) * square(way(p[2], p[3]))


def is_alike(p):
    first = multiplied(way(p[0], p[1]), way(p[3], p[5]))
    second = multiplied(way(p[0], p[2]), way(p[3], p[4]))
    return first == second


# By the kind; is_times stands there for its place alone, as it needs more than places.
BY_KIND = (
    is_same, is_line, is_parallel, is_right, is_equal, is_times, is_circle, is_angles, is_areas, is_through, is_middle,
    is_touches, is_alike,
)


def is_so(kind, p, others):
    """Whether a saying of this kind is so of the places p; others are the numbers of its row that aren't points."""
    if kind == TIMES:
        return is_times(p, others[0], others[1])
    return BY_KIND[kind](p)
