"""The plane with its points, and the answers to the calls on it."""

from pointsayings.bending import bent, may_bend, nine_of_slant
from pointsayings.finding import largest_set, rows_so
from pointsayings.keeping import is_kept, may_be_asked
from pointsayings.kinds import KINDS_OF_ALL, KINDS_OF_MOST, POINTS_OF_KIND, may_be_said
from pointsayings.measuring import centre_fractions, cross_fraction, is_too_large_to_tell, may_be_crossed
from pointsayings.places import common_below, fraction, is_too_large, may_be_told, three_numbers, whole_places
from pointsayings.reading import ALL, BEGIN, BEND, CROSS, KEEPS, MOST, OUT, POINT, POINTS, PUT, SAYS, SLANT, WHERE
from pointsayings.reading import split_calls
from pointsayings.refusals import GOES_AWAY, NO_POINT, NO_ROOM, NOT_BEGUN, NOT_SO_PLACED, TOO_LARGE, WRONG_NUMBERS
from pointsayings.sayings import is_line, is_so

MOST_POINTS = 10


def answer_with(numbers):
    """The answer of a call that tells these numbers, unless one is too large."""
    if is_too_large_to_tell(numbers):
        return [TOO_LARGE]
    return [0] + numbers


class Plane:
    """The object that the calls are on; a call's method gives back its number, or all its numbers in a list."""

    def __init__(self):
        self.begun = False
        self.places = []

    def begin(self):
        self.begun = True
        self.places = []
        return 0

    def point(self, x, y, w):
        if not may_be_told(x, y, w):
            return WRONG_NUMBERS
        if len(self.places) >= MOST_POINTS:
            return NO_ROOM
        self.places.append(three_numbers(x, y, w))
        return len(self.places) - 1

    def put(self, p, x, y, w):
        if p >= len(self.places):
            return NO_POINT
        if not may_be_told(x, y, w):
            return WRONG_NUMBERS
        self.places[p] = three_numbers(x, y, w)
        return 0

    def out(self):
        if len(self.places) == 0:
            return NO_POINT
        self.places.pop()
        return len(self.places)

    def slant(self, a, b, c, d, e, f):
        return self.bend(nine_of_slant(a, b, c, d, e, f))

    def bend(self, row):
        if not may_bend(row):
            return WRONG_NUMBERS
        brought = [bent(place, row) for place in self.places]
        # Asked of all points first: one that goes away is told ahead of another that is too large.
        if any([triple[2] == 0 for triple in brought]):
            return GOES_AWAY
        places = [three_numbers(triple[0], triple[1], triple[2]) for triple in brought]
        if any([is_too_large(place) for place in places]):
            return TOO_LARGE
        self.places = places
        return 0

    def points(self):
        return len(self.places)

    def has_each(self, numbers):
        """Whether all these are numbers of points."""
        return all([p < len(self.places) for p in numbers])

    def places_of(self, numbers):
        return [self.places[p] for p in numbers]

    def where(self, p):
        if not self.has_each([p]):
            return [NO_POINT]
        place = self.places[p]
        return [0] + fraction(place[0], place[2]) + fraction(place[1], place[2])

    def says(self, kind, row):
        if not may_be_said(kind, row):
            return WRONG_NUMBERS
        told = row[:POINTS_OF_KIND[kind]]
        if not self.has_each(told):
            return NO_POINT
        others = row[POINTS_OF_KIND[kind]:]
        return 1 if is_so(kind, whole_places(self.places_of(told)), others) else 0

    def every(self, kind):
        if kind not in KINDS_OF_ALL:
            return [WRONG_NUMBERS]
        rows = rows_so(kind, whole_places(self.places))
        answer = [len(rows)]
        for row in rows:
            answer.extend(row)
        return answer

    def most(self, kind):
        if kind not in KINDS_OF_MOST:
            return [WRONG_NUMBERS]
        members = largest_set(kind, whole_places(self.places))
        return [len(members)] + members

    def keeps(self, kind, a, b, c, d):
        if not may_be_asked(kind, a, b, c, d):
            return WRONG_NUMBERS
        return 1 if is_kept(kind, a, b, c, d) else 0

    def cross(self, told):
        if not self.has_each(told):
            return [NO_POINT]
        p = whole_places(self.places_of(told))
        if not may_be_crossed(p):
            return [NOT_SO_PLACED]
        return answer_with(cross_fraction(p))

    def centre(self, told):
        if not self.has_each(told):
            return [NO_POINT]
        places = self.places_of(told)
        p = whole_places(places)
        if is_line(p):
            return [NOT_SO_PLACED]
        return answer_with(centre_fractions(p, common_below(places)))


def answer_of(plane, call, n, row):
    """The numbers that one call is answered; n are its whole numbers."""
    if call == BEGIN:
        return [plane.begin()]
    if not plane.begun:
        return [NOT_BEGUN]
    if call == POINT:
        return [plane.point(n[0], n[1], n[2])]
    if call == PUT:
        return [plane.put(n[0], n[1], n[2], n[3])]
    if call == OUT:
        return [plane.out()]
    if call == SLANT:
        return [plane.slant(n[0], n[1], n[2], n[3], n[4], n[5])]
    if call == BEND:
        return [plane.bend(row)]
    if call == POINTS:
        return [plane.points()]
    if call == WHERE:
        return plane.where(n[0])
    if call == SAYS:
        return [plane.says(n[0], row)]
    if call == ALL:
        return plane.every(n[0])
    if call == MOST:
        return plane.most(n[0])
    if call == KEEPS:
        return [plane.keeps(n[0], n[1], n[2], n[3], n[4])]
    if call == CROSS:
        return plane.cross(n)
    return plane.centre(n)


def answers(calls):
    """What the calls told in the list are answered: of each how many numbers, then these."""
    plane = Plane()
    given = []
    for told in split_calls(calls):
        answer = answer_of(plane, told[0], told[1], told[2])
        given.append(len(answer))
        given.extend(answer)
    return given
