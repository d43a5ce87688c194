"""centre: the point that's equally far from three."""

import random
import unittest
from fractions import Fraction
from itertools import permutations

from helper import answer_after, places_after, placed

LARGEST = 10 ** 15
GREATEST = 2147483647

TEN_TIMES = ("slant", 10, 0, 0, 10, 0, 0)
TENTH = ("bend", [1, 0, 0, 0, 1, 0, 0, 0, 10])
FIFTH = ("bend", [1, 0, 0, 0, 1, 0, 0, 0, 5])


def centre(*places):
    return answer_after(*placed(*places), ("centre", 0, 1, 2))


def times(a, b):
    """Turns and stretches so that squares of lengths grow a a + b b times."""
    return ("slant", a, -b, b, a, 0, 0)


class Told(unittest.TestCase):
    def test_whole(self):
        self.assertEqual(centre((5, 0), (0, 5), (-5, 0)), [0, 0, 1, 0, 1, 25, 1])
        self.assertEqual(centre((6, 2), (1, 7), (-4, 2)), [0, 1, 1, 2, 1, 25, 1])
        self.assertEqual(centre((-10, -3), (-7, -7), (-7, 1)), [0, -35, 6, -3, 1, 625, 36])
        self.assertEqual(centre((0, 0), (4, 0), (0, 6)), [0, 2, 1, 3, 1, 13, 1])

    def test_fractions(self):
        self.assertEqual(centre((0, 0), (1, 0), (0, 1)), [0, 1, 2, 1, 2, 1, 2])
        self.assertEqual(centre((0, 0), (-1, 0), (0, 3)), [0, -1, 2, 3, 2, 5, 2])
        self.assertEqual(centre((1, 0, 2), (0, 1, 3), (0, 0)), [0, 1, 4, 1, 6, 13, 144])
        self.assertEqual(centre((1, 0), (3, 4, 5), (5, -12, 13)), [0, 0, 1, 0, 1, 1, 1])
        self.assertEqual(centre((0, 0), (2, 1), (3, 0)), [0, 3, 2, -1, 2, 5, 2])
        self.assertEqual(centre((1, 1), (2, 3), (5, 4)), [0, 9, 2, 1, 2, 25, 2])

    def test_every_order(self):
        start = placed((9, 9), (1, 2), (-3, 4, 5), (6, -7, 8))
        answers = {tuple(answer_after(*start, ("centre", *row))) for row in permutations((1, 2, 3))}
        self.assertEqual(len(answers), 1)
        self.assertEqual(answers.pop()[0], 0)

    def test_equally_far(self):
        source = random.Random(12)
        told = 0
        for turn in range(200):
            far = source.choice((2, 10, 100, 1000))
            places = [(source.randint(-far, far), source.randint(-far, far), source.randint(1, min(far, 60)))
                      for k in range(3)]
            answer = centre(*places)
            if answer[0] == 0:
                told += 1
                self.assertEqual(len(answer), 7)
                x, y, square = [Fraction(answer[k], answer[k + 1]) for k in (1, 3, 5)]
                for fraction, k in ((x, 1), (y, 3), (square, 5)):
                    self.assertEqual([fraction.numerator, fraction.denominator], answer[k:k + 2])
                for u, v in places_after(*placed(*places)):
                    self.assertEqual((x - u) ** 2 + (y - v) ** 2, square)
        self.assertGreater(told, 60)

    def test_far_away(self):
        self.assertEqual(centre((0, 0), (1000, 1), (-1000, 1)), [0, 0, 1, 1000001, 2, 1000001 ** 2, 4])
        self.assertEqual(centre((0, 0), (1, 1000), (1, -1000)), [0, 1000001, 2, 0, 1, 1000001 ** 2, 4])
        self.assertEqual(centre((0, 0), (1000, -1), (-1000, -1)), [0, 0, 1, -1000001, 2, 1000001 ** 2, 4])

    def test_behind_a_bend(self):
        start = placed((1, 0), (0, 1), (-1, 0)) + [("bend", [3, 1, 2, -1, 3, 0, 0, 0, 7])]
        self.assertEqual(answer_after(*start, ("centre", 0, 1, 2)), [0, 2, 7, 0, 1, 10, 49])
        start = placed((1, 0), (0, 1), (-1, 0)) + [("bend", [1, 0, 0, 0, 1, 0, 0, 1, 2])]
        # They come to 1 by 2 and 0, 0 and 1 by 3, minus 1 by 2 and 0.
        self.assertEqual(answer_after(*start, ("centre", 0, 1, 2)), [0, 0, 1, -5, 24, 169, 576])


class Refused(unittest.TestCase):
    def test_no_such_point(self):
        for count in range(11):
            start = placed(*[(k, k * k) for k in range(count)])
            for k in range(3):
                for missing in (count, count + 1, GREATEST):
                    row = [count - 1 - j if count > j else 0 for j in range(3)]
                    row[k] = missing
                    self.assertEqual(answer_after(*start, ("centre", *row)), [-2], row)
            if count >= 3:
                self.assertEqual(answer_after(*start, ("centre", count - 1, count - 2, count - 3))[0], 0)
        self.assertEqual(answer_after(*placed((0, 0), (1, 1), (2, 3)), ("out",), ("centre", 0, 1, 2)), [-2])

    def test_no_point_ahead_of_one_line(self):
        self.assertEqual(answer_after(*placed((1, 1), (1, 1)), ("centre", 0, 1, 2)), [-2])

    def test_on_one_line(self):
        self.assertEqual(centre((0, 0), (1, 1), (2, 2)), [-33])
        self.assertEqual(centre((3, 0), (3, 1), (3, 7)), [-33])
        self.assertEqual(centre((0, 3), (1, 3), (7, 3)), [-33])
        self.assertEqual(centre((1, 2, 3), (1, 1, 2), (-3, 4)), [-33])
        self.assertEqual(centre((1, 1, 2), (1, 1, 3), (1, 1, 5)), [-33])

    def test_two_at_one_place(self):
        self.assertEqual(centre((0, 0), (0, 0), (1, 5)), [-33])
        self.assertEqual(centre((0, 0), (1, 5), (0, 0)), [-33])
        self.assertEqual(centre((1, 5), (0, 0), (0, 0)), [-33])
        self.assertEqual(centre((1, 5, 2), (2, 10, 4), (0, 1)), [-33])
        self.assertEqual(centre((4, 4), (4, 4), (4, 4)), [-33])
        start = placed((0, 0), (1, 5), (2, 2))
        for row in ((0, 0, 1), (0, 1, 0), (1, 0, 0), (2, 2, 2)):
            self.assertEqual(answer_after(*start, ("centre", *row)), [-33])

    def test_not_begun(self):
        self.assertEqual(answer_after(("centre", 0, 1, 2)), [-61])


class TooLarge(unittest.TestCase):
    def test_square_above(self):
        start = placed((3, 1), (-1, 3), (-3, -1)) + [TEN_TIMES] * 7
        self.assertEqual(answer_after(*start, ("centre", 0, 1, 2)), [0, 0, 1, 0, 1, LARGEST, 1])
        # 10^15 and 12,500 more.
        start = placed((80, 611), (-611, 80), (-80, -611))
        start += [times(1, 4), times(2, 9), times(3, 9), times(5, 10), times(9, 9)]
        across, across_below, up, up_below = answer_after(*start, ("where", 0))[1:]
        self.assertEqual(across ** 2 + up ** 2, LARGEST + 12500)
        self.assertEqual((across_below, up_below), (1, 1))
        self.assertEqual(answer_after(*start, ("centre", 0, 1, 2)), [-75])
        start = placed((3, 1), (-1, 3), (-3, -1)) + [TEN_TIMES] * 8
        self.assertEqual(answer_after(*start, ("centre", 0, 1, 2)), [-75])

    def test_square_below(self):
        start = placed((3, 1), (-1, 3), (-3, -1)) + [TENTH] * 8
        self.assertEqual(answer_after(*start, ("centre", 0, 1, 2)), [0, 0, 1, 0, 1, 1, LARGEST])
        self.assertEqual(answer_after(*start, TENTH, ("centre", 0, 1, 2)), [-75])
        # The numbers below would be 641, 2^8 and 5^14 multiplied: some more than 10^15.
        self.assertTrue(LARGEST < 641 * 2 ** 8 * 5 ** 14 < LARGEST + 2 * 10 ** 12)
        start = placed((25, 4, 641), (-4, 25, 641), (-25, -4, 641)) + [TENTH] * 4 + [FIFTH] * 3
        x, y = places_after(*start)[0]
        self.assertEqual(x ** 2 + y ** 2, Fraction(1, 641 * 2 ** 8 * 5 ** 14))
        self.assertEqual(answer_after(*start, ("centre", 0, 1, 2)), [-75])

    # Seen from a corner the centre is told by numbers below that 2066177 and 625 divide; in the square of how far
    # it is 625 isn't left, as two of the sides' squares are by 625 too, once each.
    CORNERS = ((-710, 764, 625), (709, 631, 625), (68, -765, 625))

    def shifted(self, across, up, so_many):
        """Calls that shift the three by across and up, each by so many times 10^8."""
        calls = placed(*self.CORNERS) + [TEN_TIMES] * 8 + [("slant", so_many, 0, 0, so_many, 0, 0)]
        calls += [("slant", 1, 0, 0, 1, across, up)]
        return calls + [TENTH] * 8 + [("bend", [1, 0, 0, 0, 1, 0, 0, 0, so_many])]

    def test_neither_across_nor_up(self):
        answer = [0, -43925143, 516544250, 561136581, 2582721250, 18056696406125, 8538174790658]
        self.assertEqual(answer_after(*placed(*self.CORNERS), ("centre", 0, 1, 2)), answer)
        self.assertEqual(answer_after(*self.shifted(0, 0, 5), ("centre", 0, 1, 2)), answer)

    def test_across_alone(self):
        calls = self.shifted(1, 0, 5)
        self.assertEqual(answer_after(*calls, ("where", 0)), [0, -567999999, 5 * 10 ** 8, 764, 625])
        self.check_large(calls, 0)
        self.assertEqual(answer_after(*calls, ("centre", 0, 1, 2)), [-75])
        # By 4 times 10^8 it's still told.
        calls = self.shifted(1, 0, 4)
        answer = answer_after(*calls, ("centre", 0, 1, 2))
        self.assertEqual(answer[0], 0)
        self.assertEqual(answer[2], 826470800000000)

    def test_up_alone(self):
        calls = self.shifted(0, 1, 5)
        self.assertEqual(answer_after(*calls, ("where", 0)), [0, -142, 125, 611200001, 5 * 10 ** 8])
        self.check_large(calls, 1)
        self.assertEqual(answer_after(*calls, ("centre", 0, 1, 2)), [-75])
        answer = answer_after(*self.shifted(0, 1, 4), ("centre", 0, 1, 2))
        self.assertEqual(answer[0], 0)
        self.assertEqual(answer[4], 826470800000000)

    def check_large(self, calls, which):
        """Of the three fractions of the circle's centre just this one would need more than 10^15."""
        (ax, ay), (bx, by), (cx, cy) = places_after(*calls)
        # Where the two lines meet that are equally far from a and b, and from a and c.
        first = (2 * (bx - ax), 2 * (by - ay), bx ** 2 + by ** 2 - ax ** 2 - ay ** 2)
        second = (2 * (cx - ax), 2 * (cy - ay), cx ** 2 + cy ** 2 - ax ** 2 - ay ** 2)
        turn = first[0] * second[1] - first[1] * second[0]
        x = (first[2] * second[1] - first[1] * second[2]) / turn
        y = (first[0] * second[2] - first[2] * second[0]) / turn
        square = (x - ax) ** 2 + (y - ay) ** 2
        large = [max(abs(number.numerator), number.denominator) > LARGEST for number in (x, y, square)]
        self.assertEqual(large, [k == which for k in range(3)])


if __name__ == "__main__":
    unittest.main()
