"""Calls by their names, and what they are answered."""

from fractions import Fraction

from pointsayings.plane import Plane, answer_of, answers
from pointsayings.reading import split_calls

NUMBERS = {
    "begin": 0, "point": 1, "put": 2, "out": 3, "slant": 4, "bend": 5, "points": 6, "where": 7,
    "says": 8, "all": 9, "most": 10, "keeps": 11, "cross": 12, "centre": 13,
}

SAME_SLANT = (1, 0, 0, 1, 0, 0)
SAME_NINE = (1, 0, 0, 0, 1, 0, 0, 0, 1)


def call(name, *given):
    """One call as the interface tells it; a row is handed over as a list."""
    told = [NUMBERS[name]]
    for value in given:
        if isinstance(value, list):
            told.append(len(value))
            told.extend(value)
        else:
            told.append(value)
    return told


def flat(calls):
    return [number for one in calls for number in call(*one)]


def split_answers(given):
    """The numbers answered to each call, without the counts."""
    parts = []
    k = 0
    while k < len(given):
        parts.append(given[k + 1:k + 1 + given[k]])
        k += 1 + given[k]
    return parts


def first_numbers(*calls):
    """The first number that each call is answered."""
    return [part[0] for part in split_answers(answers(flat(calls)))]


def last_number(*calls):
    return first_numbers(*calls)[-1]


def answer_after(*calls):
    """All numbers that the last call is answered."""
    return split_answers(answers(flat(calls)))[-1]


def placed(*places):
    """Calls that begin and place these points: x, y, or x, y, w."""
    return [("begin",)] + [("point", *place, 1) if len(place) == 2 else ("point", *place) for place in places]


def triples_after(*calls):
    """The three numbers of every point behind these calls."""
    plane = Plane()
    for number, plain, row in split_calls(flat(calls)):
        answer_of(plane, number, plain, row)
    return plane.places


def places_after(*calls):
    return [(Fraction(x, w), Fraction(y, w)) for x, y, w in triples_after(*calls)]


def is_there(calls, x, y, w):
    """Whether some point is x by w across and some point y by w up (all at most 10 in size), by answers alone.

    It's asked by bends that send away just what is so far across, or so far up."""
    across = ("bend", [0, 1, 0, 0, 0, 1, w, 0, -x])
    up = ("bend", [1, 0, 0, 0, 0, 1, 0, w, -y])
    return last_number(*calls, across) == -33 and last_number(*calls, up) == -33
