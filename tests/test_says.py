"""says: the thirteen kinds of sayings."""

import random
import unittest
from fractions import Fraction

from helper import answer_after, first_numbers, placed

SAME, LINE, PARALLEL, RIGHT, EQUAL, TIMES, CIRCLE, ANGLES, AREAS, THROUGH, MIDDLE, TOUCHES, ALIKE = range(13)
KINDS = range(13)
TAKES = (2, 3, 4, 4, 4, 6, 4, 6, 6, 6, 3, 4, 6)
POINTS = (2, 3, 4, 4, 4, 4, 4, 6, 6, 6, 3, 4, 6)

O = (0, 0)

# By the kind: places of which it's so, and places of which it isn't.
CASES = {
    SAME: ([
        [(1, 2), (1, 2)], [(1, 2, 3), (2, 4, 6)], [(-5, 0, 7), (-10, 0, 14)], [O, (0, 0, 9)],
    ], [
        [(1, 2), (2, 1)], [(1, 2), (1, 3)], [(1, 2), (3, 2)], [(1, 2, 3), (1, 2, 4)], [(1, 2), (-1, -2)],
    ]),
    LINE: ([
        [O, (1, 2), (3, 6)], [O, (0, 5), (0, -7)], [(1, 4), (2, 4), (-9, 4)], [(1, 2, 3), (1, 1, 2), (-3, 4, 1)],
        [O, O, (1, 5)], [(1, 5), O, O], [O, (1, 5), O], [(3, 3), (3, 3), (3, 3)],
    ], [
        [O, (1, 2), (3, 5)], [O, (1, 0), (0, 1)], [(1, 2, 3), (1, 1, 2), (1, 1, 3)], [(1, 4), (2, 4), (-9, 5)],
    ]),
    PARALLEL: ([
        [O, (1, 2), (5, 5), (7, 9)], [O, (1, 2), (7, 9), (5, 5)], [O, (0, 3), (4, 1), (4, 2)],
        [(1, 1, 2), (2, 3, 2), (0, 0), (1, 2, 7)], [O, (1, 2), (2, 4), (4, 8)], [(1, 1), (1, 1), O, (3, 4)],
        [O, (3, 4), (2, 5), (2, 5)], [O, O, O, O],
    ], [
        [O, (1, 2), (5, 5), (7, 8)], [O, (1, 0), O, (0, 1)], [O, (1, 2), (0, 0), (-1, 2)],
        [(1, 1, 2), (2, 3, 2), (0, 0), (1, 3, 7)], [O, (2, 3), O, (3, 2)],
    ]),
    RIGHT: ([
        [O, (1, 0), (5, 5), (5, 9)], [O, (1, 2), (1, 1), (-1, 2)], [O, (1, 2), (-1, 2), (1, 1)],
        [(1, 1, 3), (1, 2, 3), (0, 7), (1, 7, 1)], [O, (3, 4), (4, 5), (8, 2)], [(1, 1), (1, 1), O, (3, 4)],
        [O, (3, 4), (2, 5), (2, 5)], [O, O, O, O],
    ], [
        [O, (1, 2), (1, 1), (-1, 3)], [O, (1, 2), O, (1, 2)], [O, (1, 2), O, (2, 1)], [O, (1, 1, 3), O, (1, 1, 4)],
        [O, (3, 4), (4, 5), (8, 1)],
    ]),
    EQUAL: ([
        [O, (3, 4), (1, 1), (6, 1)], [O, (3, 4), O, (-4, 3)], [O, (3, 4, 5), (2, 2), (2, 3)], [O, (1, 2), (5, 6), (3, 5)],
        [(7, 7), (7, 7), O, O], [O, (1, 7), (1, 7), O],
    ], [
        [O, (3, 4), (1, 1), (6, 2)], [O, (1, 2), O, (2, 2)], [O, (3, 4, 5), (2, 2), (3, 3)], [(7, 7), (7, 7), O, (1, 0)],
        [O, (1, 0), (7, 7), (7, 7)], [O, (1, 3), O, (2, 2)],
    ]),
    CIRCLE: ([
        [(5, 0), (0, 5), (-5, 0), (3, 4)], [(1, 1), (2, 1), (1, 2), (2, 2)], [(1, 0), (3, 4, 5), (5, 12, 13), (-8, 15, 17)],
        [O, (1, 2), (2, 4), (3, 6)], [(1, 1), (1, 2), (1, 3), (1, 9)], [(1, 1, 2), (1, 1, 3), (1, 1, 4), (1, 1, 5)],
        [O, O, (1, 0), (5, 7)], [O, (1, 0), (5, 7), O], [(1, 0), O, (5, 7), O], [(1, 0), (5, 7), O, O],
        [(1, 0), O, O, (5, 7)], [O, (5, 7), O, (1, 0)], [O, O, O, (1, 1)], [O, O, (1, 1), (1, 1)], [O, O, O, O],
        [O, (1, 1), (2, 2), (2, 2)], [(2, 3), O, O, (4, 6)],
    ], [
        [(5, 0), (0, 5), (-5, 0), (3, 5)], [(1, 1), (2, 1), (1, 2), (2, 3)], [(1, 0), (3, 4, 5), (5, 12, 13), (-8, 15, 16)],
        [O, (1, 1), (2, 2), (0, 1)], [O, (1, 1), (0, 1), (2, 2)], [O, (0, 1), (1, 1), (2, 2)], [(0, 1), O, (1, 1), (2, 2)],
        [(1, 1, 2), (1, 1, 3), (1, 1, 4), (1, 2, 5)], [O, (4, 0), (0, 4), (1, 1)],
    ]),
    ANGLES: ([
        [(1, 0), O, (1, 1), (5, 5), (5, 4), (4, 5)], [(1, 0), O, (1, 1), (0, 1), O, (-1, 1)],
        [(1, 0), O, (1, 1), (-3, 0), O, (2, 2)], [(1, 0), O, (0, 1), (0, 1), O, (1, 0)],
        [(2, 0, 3), O, (2, 1, 9), (4, 3, 7), (0, 0), (5, 10, 3)], [(1, 0), O, (2, 0), (5, 5), (4, 4), (7, 7)],
        [O, O, (1, 1), (1, 0), O, (1, 2)], [(1, 1), O, O, (1, 0), O, (1, 2)], [(1, 0), O, (1, 2), O, O, (1, 1)],
        [(1, 0), O, (1, 2), (1, 1), O, O], [O, O, O, (1, 0), O, (1, 2)],
    ], [
        [(1, 0), O, (1, 1), (1, 0), O, (1, -1)], [(1, 0), O, (1, 1), (1, 0), O, (0, 1)],
        [(1, 0), O, (0, 1), (1, 0), O, (1, 1)], [(1, 0), O, (1, 1), (1, 0), O, (2, 0)],
        [(1, 0), O, (2, 0), (1, 0), O, (1, 1)], [(2, 0, 3), O, (2, 1, 9), (4, 3, 7), (0, 0), (5, 11, 3)],
        [(1, 0), O, (1, 2), (1, 0), O, (2, 1)],
    ]),
    AREAS: ([
        [O, (1, 0), (0, 1), (5, 5), (6, 5), (9, 6)], [O, (4, 0), (0, 1), O, (2, 0), (0, 2)],
        [O, (1, 0), (0, 1), (0, 1), O, (1, 0)], [O, (0, 1), (1, 0), O, (1, 1), (1, 0)],
        [O, (1, 0, 2), (0, 1, 3), O, (1, 0, 6), (0, 1)], [O, (1, 1), (2, 2), (3, 4), (3, 5), (3, 9)],
        [O, O, (1, 0), (0, 1), (5, 5), (5, 5)], [O, O, O, O, O, O],
    ], [
        [O, (1, 0), (0, 1), O, (0, 1), (1, 0)], [O, (1, 0), (0, 1), (5, 5), (6, 5), (9, 7)],
        [O, (1, 0), (0, 1), O, (1, 1), (2, 2)], [O, (1, 1), (2, 2), O, (1, 0), (0, 1)],
        [O, (1, 0, 2), (0, 1, 3), O, (1, 0, 6), (0, 2)], [O, (1, 0), (0, 1), O, O, (3, 3)],
    ]),
    THROUGH: ([
        [(1, 0), (2, 0), (0, 1), (0, 2), (1, 1), (2, 2)], [(1, 5), (2, 5), (3, 9), (3, -4), (4, 6), (2, 4)],
        [O, (1, 2), (1, 0), (2, 2), (5, 0), (3, -4)], [O, (0, 1), (1, 0), (1, 1), (2, 5), (2, 0)],
        [O, (1, 1), (2, 2), (3, 3), (1, 0), (5, 3)], [O, (1, 1), (2, 2), (3, 3), (1, 0), (2, 1)],
        [O, (1, 1), (1, 0), (5, 3), (2, 2), (3, 3)], [O, (1, 1), (2, 2), (3, 3), (4, 4), (5, 5)],
        [(1, 1, 2), (1, 1, 3), (3, 3), (3, 4), (1, 3), (2, 3)],
        [(1, 0, 3), (0, 1, 3), (1, 0, 2), (0, 1, 2), (1, 2, 5), (2, 1, 5)],
        [(5, 5), (5, 5), O, (1, 0), (0, 1), (1, 2)], [O, (1, 0), (5, 5), (5, 5), (0, 1), (1, 2)],
        [O, (1, 0), (0, 1), (1, 2), (5, 5), (5, 5)], [O, O, O, O, O, O], [O, O, (1, 1), (1, 1), O, (1, 2)],
    ], [
        [(1, 0), (2, 0), (0, 1), (0, 2), (1, 1), (2, 3)], [O, (1, 0), (0, 1), (1, 1), O, (0, 1)],
        [O, (1, 0), O, (0, 1), (0, 1), (1, 1)], [O, (0, 1), O, (1, 0), (0, 1), (1, 1)],
        [(1, 1, 2), (1, 1, 3), (3, 3), (3, 4), (1, 3), (2, 4)], [O, (1, 2), (1, 0), (2, 2), (5, 0), (3, -3)],
    ]),
    MIDDLE: ([
        [(1, 1), O, (2, 2)], [(1, 1), (2, 2), O], [(0, 0), (-3, 5), (3, -5)], [(5, 5, 12), (1, 1, 2), (1, 1, 3)],
        [(3, 3), (3, 3), (3, 3)], [(1, 0, 2), O, (1, 0)],
    ], [
        [O, (1, 1), (2, 2)], [(2, 2), O, (1, 1)], [(1, 1), O, (2, 3)], [(1, 1), O, (3, 2)], [(5, 5, 11), (1, 1, 2), (1, 1, 3)],
        [O, O, (1, 1)], [O, (1, 1), O], [(1, 1), O, O],
    ]),
    TOUCHES: ([
        [(0, 5), (1, 5), O, (3, 4)], [(5, -9), (5, 20), O, (4, -3)], [(25, 0, 3), (0, 25, 4), O, (5, 0)],
        [(5, 5), (5, 5), O, (1, 0)], [(5, 5), (5, 5), O, O], [O, (1, 1), (3, 3), (3, 3)], [(0, 1, 2), (1, 1, 2), O, (3, 4, 10)],
        [O, (1, 0), (4, 1), (4, 2)], [O, (1, 0), (4, -1), (4, -2)], [(1, 7), (7, -1), O, (0, 5)],
    ], [
        [(0, 5), (1, 5), O, (3, 3)], [(0, 5), (1, 6), O, (3, 4)], [O, (1, 1), (3, 3), (3, 4)], [O, (1, 1), (3, 4), (3, 4)],
        [(0, 1, 2), (1, 1, 2), O, (3, 4, 11)], [(1, 7), (7, -1), O, (0, 6)], [(0, 5), (1, 5), O, O],
    ]),
    ALIKE: ([
        [O, (1, 0), (0, 1), (5, 5), (5, 7), (3, 5)], [O, (1, 0), (1, 2), O, (1, 0), (1, 2)],
        [(1, 1), (2, 1), (3, 4), (9, 9), (9, 11), (3, 13)], [O, (1, 0, 2), (1, 1, 3), (1, 0), (1, 1, 2), (1, 0, 3)],
        [O, (1, 1), (2, 2), (5, 5), (5, 6), (5, 7)], [O, O, (1, 2), (3, 3), (3, 3), (7, 5)],
        [O, (1, 2), O, (3, 3), (7, 5), (3, 3)], [O, O, O, (3, 3), (1, 0), (0, 1)], [O, (1, 0), (0, 1), (3, 3), (3, 3), (3, 3)],
        [O, (1, 0), (1, 0), O, (5, 6), (5, 6)],
    ], [
        [O, (1, 0), (0, 1), O, (0, 1), (1, 0)], [O, (1, 0), (1, 2), O, (1, 0), (1, -2)], [O, (1, 0), (0, 1), O, (1, 0), (0, 2)],
        [O, (1, 0), (1, 2), O, (1, 2), (1, 0)], [O, (1, 0, 2), (1, 1, 3), (1, 0), (1, 1, 2), (1, 0, 4)],
        [O, O, (1, 2), (3, 3), (4, 4), (7, 5)], [O, (1, 2), O, (3, 3), (7, 5), (4, 4)], [O, (1, 0), (0, 1), (3, 3), (3, 3), (4, 4)],
    ]),
}

# Turned, stretched, turned over, shifted by fractions: what's said stays as it was, and places become fractions.
ALIKE_MOVES = (
    ("slant", 3, -4, 4, 3, 7, -5), ("slant", -2, 0, 0, 2, 1, 1), ("slant", 0, 1, 1, 0, 0, 0), ("slant", -1, 0, 0, -1, 10, 9),
    ("bend", [1, 0, 0, 0, 1, 0, 0, 0, 7]), ("bend", [3, 0, 1, 0, 3, 2, 0, 0, 3]), ("bend", [1, 2, 3, 2, -1, 4, 0, 0, -9]),
)


def row_of(kind):
    return list(range(POINTS[kind])) + ([1, 1] if kind == TIMES else [])


class EachKind(unittest.TestCase):
    def check(self, kind, places, row, answer):
        start = placed(*places)
        self.assertEqual(answer_after(*start, ("says", kind, row)), [answer], (kind, places))
        for move in ALIKE_MOVES:
            self.assertEqual(first_numbers(*start, move, ("says", kind, row))[-2:], [0, answer], (kind, places, move))
        moves = list(ALIKE_MOVES)
        self.assertEqual(answer_after(*start, *moves, ("says", kind, row)), [answer], (kind, places))

    def test_so_and_not_so(self):
        for kind, (so, not_so) in CASES.items():
            for answer, all_places in ((1, so), (0, not_so)):
                for places in all_places:
                    self.assertEqual(len(places), POINTS[kind])
                    self.check(kind, places, row_of(kind), answer)

    def test_other_numbers_of_points(self):
        # The row's order tells, not that of the points.
        source = random.Random(4)
        for kind, (so, not_so) in CASES.items():
            for answer, all_places in ((1, so), (0, not_so)):
                for places in all_places:
                    order = list(range(10))
                    source.shuffle(order)
                    row = order[:len(places)]
                    lying = [(k * k + 11, 17 - k * k * k) for k in range(10)]
                    for k, place in zip(row, places):
                        lying[k] = place
                    self.assertEqual(answer_after(*placed(*lying), ("says", kind, row)), [answer], (kind, places, row))

    def test_same_point_twice(self):
        # A point that's told twice counts as two at one place.
        for kind, (so, not_so) in CASES.items():
            for answer, all_places in ((1, so), (0, not_so)):
                for places in all_places:
                    at = [tuple(Fraction(number, (*place, 1)[2]) for number in place[:2]) for place in places]
                    row = [at.index(place) for place in at]
                    self.assertEqual(answer_after(*placed(*places), ("says", kind, row)), [answer], (kind, places, row))

    def test_one_point_throughout(self):
        for kind in KINDS:
            row = [1] * POINTS[kind]
            if kind == TIMES:
                row += [3, 5]
            self.assertEqual(answer_after(*placed((1, 1), (5, 7, 3)), ("says", kind, row)), [1], kind)

    def test_large_places(self):
        large = [("slant", 10, 0, 0, 10, 3, 7)] * 6
        start = placed((0, 0), (900, 1), (-899, 1), (1, 1)) + large
        self.assertEqual(answer_after(*start, ("says", LINE, [1, 2, 3])), [1])
        self.assertEqual(answer_after(*start, ("says", LINE, [0, 1, 2])), [0])
        self.assertEqual(answer_after(*start, ("says", MIDDLE, [3, 1, 2])), [0])
        self.assertEqual(answer_after(*start, ("says", PARALLEL, [1, 2, 2, 3])), [1])
        small = [("bend", [1, 0, 0, 0, 1, 1, 0, 0, 10])] * 6
        start = placed((1, 0, 997), (0, 1, 991), (-1, 0, 983), (1, 1, 977)) + small
        self.assertEqual(answer_after(*start, ("says", CIRCLE, [0, 1, 2, 3])), [0])
        self.assertEqual(answer_after(*start, ("says", CIRCLE, [0, 1, 2, 1])), [1])


class Times(unittest.TestCase):
    def test_so_and_not_so(self):
        check = EachKind.check
        places = [O, (6, 8), (1, 1), (4, 5)]
        check(self, TIMES, places, [0, 1, 2, 3, 2, 1], 1)
        check(self, TIMES, places, [2, 3, 0, 1, 1, 2], 1)
        check(self, TIMES, places, [1, 0, 2, 3, 1000, 500], 1)
        check(self, TIMES, places, [0, 1, 2, 3, 1, 2], 0)
        check(self, TIMES, places, [0, 1, 2, 3, 4, 1], 0)
        check(self, TIMES, places, [0, 1, 2, 3, 3, 2], 0)
        check(self, TIMES, places, [0, 1, 2, 3, 1000, 501], 0)
        places = [O, (3, 4, 7), (1, 1, 2), (1, 1, 2), (1, 5, 2), (5, 5, 2)]
        check(self, TIMES, places, [0, 1, 4, 5, 5, 14], 1)
        check(self, TIMES, places, [0, 1, 4, 5, 14, 5], 0)
        check(self, TIMES, places, [2, 3, 2, 3, 7, 9], 1)
        check(self, TIMES, places, [2, 3, 0, 1, 1, 1000], 0)
        check(self, TIMES, places, [0, 1, 2, 3, 1000, 1], 0)
        check(self, TIMES, [O, (1, 1), (0, 1), (1, 1)], [0, 1, 2, 3, 2, 1], 0)
        check(self, TIMES, [O, (1, 1), (0, 1), (1, 1)], [0, 1, 2, 3, 1, 1], 0)

    def test_two_by_two(self):
        for m in (1, 2, 999, 1000):
            EachKind.check(self, TIMES, [O, (3, 4), (1, 1), (1, 6)], [0, 1, 2, 3, m, m], 1)
            EachKind.check(self, TIMES, [O, (3, 4), (1, 1), (1, 7)], [0, 1, 2, 3, m, m], 0)

    def test_a_thousand(self):
        places = [O, (1, 0), (0, 0), (1, 0, 1000)]
        EachKind.check(self, TIMES, places, [0, 1, 2, 3, 1000, 1], 1)
        EachKind.check(self, TIMES, places, [2, 3, 0, 1, 1, 1000], 1)
        EachKind.check(self, TIMES, places, [2, 3, 0, 1, 1000, 1], 0)
        EachKind.check(self, TIMES, places, [2, 3, 0, 1, 1, 999], 0)

    def test_ends(self):
        start = placed(O, (1, 0), (0, 1), (1, 1))
        for wrong in (0, 1001, 2147483647):
            for row in ([0, 1, 2, 3, wrong, 1], [0, 1, 2, 3, 1, wrong], [0, 1, 2, 3, wrong, wrong]):
                self.assertEqual(answer_after(*start, ("says", TIMES, row)), [-22], row)
        for right in (1, 1000):
            for other in (1, 2, 1000):
                row = [0, 1, 2, 3, right, other]
                self.assertEqual(answer_after(*start, ("says", TIMES, row)), [1 if right == other else 0], row)
                row = [0, 1, 2, 3, other, right]
                self.assertEqual(answer_after(*start, ("says", TIMES, row)), [1 if right == other else 0], row)


class Refused(unittest.TestCase):
    def test_not_begun(self):
        for kind in (0, 5, 12, 13):
            self.assertEqual(answer_after(("says", kind, [0, 0])), [-61])

    def test_kinds(self):
        ten = placed(*[(k, k * k) for k in range(10)])
        for kind in (13, 14, 100, 2147483647):
            for count in range(7):
                self.assertEqual(answer_after(*ten, ("says", kind, list(range(count)))), [-22], kind)
                self.assertEqual(answer_after(("begin",), ("says", kind, list(range(count)))), [-22], kind)
        self.assertIn(answer_after(*ten, ("says", 12, [0, 1, 2, 3, 4, 5])), ([0], [1]))

    def test_lengths_of_rows(self):
        ten = placed(*[(k, k * k) for k in range(10)])
        for kind in KINDS:
            for count in range(7):
                row = list(range(1, count + 1))
                answer = answer_after(*ten, ("says", kind, row))
                if count == TAKES[kind]:
                    self.assertIn(answer, ([0], [1]), (kind, row))
                else:
                    self.assertEqual(answer, [-22], (kind, row))

    def test_no_such_point(self):
        for kind in KINDS:
            for count in range(11):
                start = placed(*[(k, k) for k in range(count)])
                for k in range(POINTS[kind]):
                    row = [max(count - 1, 0)] * POINTS[kind] + ([1, 1] if kind == TIMES else [])
                    if count > 0:
                        self.assertEqual(answer_after(*start, ("says", kind, row)), [1], (kind, row))
                    for missing in (count, count + 1, 2147483647):
                        row[k] = missing
                        self.assertEqual(answer_after(*start, ("says", kind, row)), [-2], (kind, row))

    def test_numbers_of_times_are_no_points(self):
        start = placed((3, 3), (3, 4))
        self.assertEqual(answer_after(*start, ("says", TIMES, [0, 0, 1, 1, 2, 1000])), [1])
        self.assertEqual(answer_after(*start, ("says", TIMES, [0, 1, 1, 0, 9, 9])), [1])

    def test_wrong_numbers_ahead_of_no_point(self):
        for start in ([("begin",)], placed((1, 1))):
            self.assertEqual(answer_after(*start, ("says", 13, [7, 7])), [-22])
            self.assertEqual(answer_after(*start, ("says", 13, [])), [-22])
            for kind in KINDS:
                for count in range(7):
                    if count != TAKES[kind]:
                        self.assertEqual(answer_after(*start, ("says", kind, [7] * count)), [-22], (kind, count))
            for last in ([0, 1], [1, 0], [1001, 1], [1, 1001]):
                self.assertEqual(answer_after(*start, ("says", TIMES, [7, 7, 7, 7] + last)), [-22])
            self.assertEqual(answer_after(*start, ("says", TIMES, [7, 7, 7, 7, 1, 1])), [-2])

    def test_point_that_is_gone(self):
        self.assertEqual(answer_after(*placed((1, 1), (1, 1)), ("out",), ("says", SAME, [0, 1])), [-2])
        self.assertEqual(answer_after(*placed((1, 1), (1, 1)), ("begin",), ("says", SAME, [0, 0])), [-2])


class Moved(unittest.TestCase):
    def test_bent_lines(self):
        # Bent, what's on one line stays so, and lines through one point or parallel are through one or parallel.
        bends = ([7, 0, 0, 0, 7, 0, 1, 2, 10], [2, 1, 0, 1, 3, 1, 2, -1, 9], [0, 1, 2, 1, 0, 3, -1, -1, 8])
        asked = 0
        for nine in bends:
            for kind in (LINE, THROUGH):
                for answer, all_places in ((1, CASES[kind][0]), (0, CASES[kind][1])):
                    for places in all_places:
                        given = first_numbers(*placed(*places), ("bend", nine), ("says", kind, row_of(kind)))
                        # Some bend sends a point away; the others bring it somewhere.
                        if given[-2] == 0:
                            self.assertEqual(given[-1], answer, (kind, places, nine))
                            asked += 1
        self.assertGreater(asked, 80)

    def test_bent_parallels(self):
        start = placed((0, 1), (1, 1), (0, 2), (1, 2), (0, 3), (1, 3))
        nine = [1, 0, 0, 0, 1, 0, 1, 1, 1]
        self.assertEqual(answer_after(*start, ("says", PARALLEL, [0, 1, 2, 3])), [1])
        self.assertEqual(answer_after(*start, ("bend", nine), ("says", PARALLEL, [0, 1, 2, 3])), [0])
        self.assertEqual(answer_after(*start, ("bend", nine), ("says", THROUGH, [0, 1, 2, 3, 4, 5])), [1])

    def test_slanted_circle(self):
        start = placed((5, 0), (0, 5), (-5, 0), (3, 4))
        self.assertEqual(answer_after(*start, ("slant", 2, 0, 0, 1, 0, 0), ("says", CIRCLE, [0, 1, 2, 3])), [0])
        self.assertEqual(answer_after(*start, ("slant", 0, 2, 2, 0, 3, 1), ("says", CIRCLE, [0, 1, 2, 3])), [1])


if __name__ == "__main__":
    unittest.main()
