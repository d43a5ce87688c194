"""The plane with its points, and the answers to the calls on it."""

from pointsayings.bending import bent, may_bend, nine_of_slant
from pointsayings.places import is_too_large, may_be_told, three_numbers
from pointsayings.reading import BEGIN, BEND, OUT, POINT, POINTS, PUT, SLANT, split_calls
from pointsayings.refusals import GOES_AWAY, NO_POINT, NO_ROOM, NOT_BEGUN, TOO_LARGE, WRONG_NUMBERS

MOST_POINTS = 10


class Plane:
    """The object that the calls are on; each method answers a call's number."""

    def __init__(self):
        self.begun = False
        self.places = []

    def begin(self):
        self.begun = True
        self.places = []
        return 0

    def point(self, x, y, w):
        if not may_be_told(x, y, w):
            return WRONG_NUMBERS
        if len(self.places) >= MOST_POINTS:
            return NO_ROOM
        self.places.append(three_numbers(x, y, w))
        return len(self.places) - 1

    def put(self, p, x, y, w):
        if p >= len(self.places):
            return NO_POINT
        if not may_be_told(x, y, w):
            return WRONG_NUMBERS
        self.places[p] = three_numbers(x, y, w)
        return 0

    def out(self):
        if len(self.places) == 0:
            return NO_POINT
        self.places.pop()
        return len(self.places)

    def slant(self, a, b, c, d, e, f):
        return self.bend(nine_of_slant(a, b, c, d, e, f))

    def bend(self, row):
        if not may_bend(row):
            return WRONG_NUMBERS
        brought = [bent(place, row) for place in self.places]
        # Asked of all points first: one that goes away is told ahead of another that is too large.
        if any([triple[2] == 0 for triple in brought]):
            return GOES_AWAY
        places = [three_numbers(triple[0], triple[1], triple[2]) for triple in brought]
        if any([is_too_large(place) for place in places]):
            return TOO_LARGE
        self.places = places
        return 0

    def points(self):
        return len(self.places)


def answer_of(plane, call, n, row):
    """The numbers that one call is answered; n are its whole numbers."""
    if call == BEGIN:
        return [plane.begin()]
    if not plane.begun:
        return [NOT_BEGUN]
    if call == POINT:
        return [plane.point(n[0], n[1], n[2])]
    if call == PUT:
        return [plane.put(n[0], n[1], n[2], n[3])]
    if call == OUT:
        return [plane.out()]
    if call == SLANT:
        return [plane.slant(n[0], n[1], n[2], n[3], n[4], n[5])]
    if call == BEND:
        return [plane.bend(row)]
    if call == POINTS:
        return [plane.points()]
    raise NotImplementedError("this call is not built yet")


def answers(calls):
    """What the calls told in the list are answered: of each how many numbers, then these."""
    plane = Plane()
    given = []
    for told in split_calls(calls):
        answer = answer_of(plane, told[0], told[1], told[2])
        given.append(len(answer))
        given.extend(answer)
    return given
