"""Of which points something is so, and the largest sets of points of which it's so throughout."""

from pointsayings.kinds import KINDS_OF_WAYS, KINDS_RISING, POINTS_OF_KIND
from pointsayings.sayings import is_so


def rising(count, size):
    """All rows of so many rising numbers below count, in order."""
    rows = [[]]
    for done in range(size):
        longer = []
        for row in rows:
            start = row[-1] + 1 if done > 0 else 0
            longer.extend([row + [number] for number in range(start, count)])
        rows = longer
    return rows


def pairs_of_ways(count):
    """All rows a, b, c, d with a below b, c below d, and the first two ahead of the last two, in order."""
    ways = rising(count, 2)
    rows = []
    for done, first in enumerate(ways, start=1):
        rows.extend([first + second for second in ways[done:]])
    return rows


def middles(count):
    """All rows a, b, c with b below c, and a neither, in order."""
    ways = rising(count, 2)
    rows = []
    for a in range(count):
        rows.extend([[a] + ends for ends in ways if a not in ends])
    return rows


def rows_to_ask(kind, count):
    """All rows of points of which a saying of this kind is asked, in order."""
    if kind in KINDS_RISING:
        return rising(count, POINTS_OF_KIND[kind])
    if kind in KINDS_OF_WAYS:
        return pairs_of_ways(count)
    return middles(count)


def rows_so(kind, p):
    """The rows of points of which a saying of this kind is so, in order; p are the places of all points."""
    return [row for row in rows_to_ask(kind, len(p)) if is_so(kind, [p[k] for k in row], [])]


def is_so_throughout(members, parts, so):
    """Whether so has each of the parts of the members."""
    for part in parts:
        if tuple([members[k] for k in part]) not in so:
            return False
    return True


def sets_throughout(count, size, width, so):
    """The sets of so many points, in order, of which so has each choice of width points."""
    parts = rising(size, width)
    return [members for members in rising(count, size) if is_so_throughout(members, parts, so)]


def largest_set(kind, p):
    """The largest set of points of which the saying is so throughout; of several the first in order."""
    width = POINTS_OF_KIND[kind]
    so = {}
    for row in rows_so(kind, p):
        so[tuple(row)] = True
    size = len(p)
    found = sets_throughout(len(p), size, width, so)
    # It ends: a set smaller than width has no part of which something would have to be so.
    while len(found) == 0:
        size = size - 1
        found = sets_throughout(len(p), size, width, so)
    return found[0]
