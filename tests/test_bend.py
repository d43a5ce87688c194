"""Promise 2: bend."""

import unittest
from fractions import Fraction

from helper import SAME_NINE, first_numbers, is_there, last_number, places_after, triples_after

SOME = [("begin",), ("point", 1, 2, 1), ("point", -3, 5, 4), ("point", 0, 0, 1), ("point", 1000, -7, 9)]
BENDS = (
    SAME_NINE, (1, 2, 3, 4, 5, 6, 7, 8, 10), (-1, 0, 0, 0, 1, 0, 0, 0, -1), (10, -9, 8, -7, 6, -5, 4, -3, 1),
    (0, 1, 0, 1, 0, 0, 0, 0, -10), (1, 0, 0, 0, 1, 0, 1, 2, 3), (2, 3, 1, 5, 7, -4, 0, 0, 1), (0, 0, 1, 1, 0, 0, 3, 1, 7),
)
BILLION = 10 ** 9
SHRINK = ("bend", [1, 0, 0, 0, 1, 0, 0, 0, 10])


def bent(place, m):
    x, y = place
    divisor = m[6] * x + m[7] * y + m[8]
    return ((m[0] * x + m[1] * y + m[2]) / divisor, (m[3] * x + m[4] * y + m[5]) / divisor)


def turn(p, q, r):
    return (q[0] - p[0]) * (r[1] - p[1]) - (q[1] - p[1]) * (r[0] - p[0])


class Numbers(unittest.TestCase):
    def test_how_many(self):
        for count in range(9):
            with self.subTest(count=count):
                row = list(SAME_NINE[:count])
                self.assertEqual(first_numbers(("begin",), ("bend", row), ("points",)), [0, -22, 0])
                self.assertEqual(first_numbers(*SOME, ("bend", row), ("points",))[-2:], [-22, 4])
        self.assertEqual(last_number(("begin",), ("bend", list(SAME_NINE))), 0)

    def test_each_of_the_nine(self):
        for k in range(9):
            for size, answer in ((10, 0), (-10, 0), (11, -22), (-11, -22), (2147483647, -22), (-2147483648, -22)):
                with self.subTest(k=k, size=size):
                    row = list(SAME_NINE)
                    row[k] = size
                    self.assertEqual(last_number(("begin",), ("bend", row)), answer)
                    calls = [("begin",), ("point", 1, 2, 3), ("bend", row), ("points",)]
                    self.assertEqual(first_numbers(*calls)[-2:], [answer, 1])

    def test_measure_0(self):
        for row in ([0] * 9, [1] * 9, [1, 2, 3, 4, 5, 6, 7, 8, 9], [1, 0, 0, 0, 1, 0, 0, 0, 0],
                    [0, 0, 0, 4, 5, 6, 7, 8, 10], [1, 2, 3, 2, 4, 6, 1, 0, 1], [1, 0, 1, 0, 1, 1, 1, 1, 2]):
            with self.subTest(row=row):
                self.assertEqual(last_number(("begin",), ("bend", row)), -22)
                self.assertEqual(last_number(*SOME, ("bend", row)), -22)

    def test_each_part_of_the_measure(self):
        # One number in each row and column: the measure is their product, or below 0 by it.
        for places in ((0, 4, 8), (0, 5, 7), (1, 3, 8), (1, 5, 6), (2, 3, 7), (2, 4, 6)):
            with self.subTest(places=places):
                row = [1 if k in places else 0 for k in range(9)]
                self.assertEqual(last_number(("begin",), ("bend", row)), 0)
        # Two such at once: they are taken from one another or added, as the measure says.
        for first, second, answer in (((0, 4, 8), (0, 5, 7), -22), ((0, 4, 8), (1, 3, 8), -22),
                                      ((0, 4, 8), (2, 4, 6), -22), ((1, 5, 6), (0, 5, 7), -22),
                                      ((2, 3, 7), (2, 4, 6), -22), ((1, 5, 6), (1, 3, 8), -22),
                                      ((0, 4, 8), (1, 5, 6), 0), ((0, 4, 8), (2, 3, 7), 0),
                                      ((0, 5, 7), (1, 3, 8), 0), ((0, 5, 7), (2, 4, 6), 0)):
            with self.subTest(first=first, second=second):
                row = [1 if k in first or k in second else 0 for k in range(9)]
                self.assertEqual(last_number(("begin",), ("bend", row)), answer)


class Brought(unittest.TestCase):
    def test_no_point(self):
        self.assertEqual(first_numbers(("begin",), ("bend", [1, 2, 3, 4, 5, 6, 7, 8, 10]), ("points",)), [0, 0, 0])

    def test_all_points(self):
        for nine in BENDS:
            with self.subTest(nine=nine):
                expected = [bent(place, nine) for place in places_after(*SOME)]
                self.assertEqual(last_number(*SOME, ("bend", list(nine))), 0)
                self.assertEqual(places_after(*SOME, ("bend", list(nine))), expected)
                for x, y, w in triples_after(*SOME, ("bend", list(nine))):
                    self.assertGreaterEqual(w, 1)

    def test_each_number_has_its_place(self):
        expected = ((2, 2, 1), (3, 2, 1), (2, 2, 1), (1, 3, 1), (1, 4, 1), (1, 3, 1), (1, 2, 2), (1, 2, 3), (1, 2, 2))
        for k in range(9):
            with self.subTest(k=k):
                row = list(SAME_NINE)
                row[k] += 1
                calls = [("begin",), ("point", 1, 2, 1), ("bend", row)]
                self.assertEqual(last_number(*calls), 0)
                self.assertTrue(is_there(calls, *expected[k]))

    def test_divisor_below_0(self):
        calls = [("begin",), ("point", 3, 4, 5), ("bend", [1, 0, 0, 0, 1, 0, 0, 0, -2])]
        self.assertEqual(last_number(*calls), 0)
        self.assertEqual(triples_after(*calls), [(-3, -4, 10)])
        self.assertTrue(is_there(calls, -3, -4, 10))
        calls = [("begin",), ("point", 1, 2, 1), ("bend", [1, 0, 0, 0, 1, 0, -1, -1, -1])]
        self.assertTrue(is_there(calls, -1, -2, 4))

    def test_nothing_in_common(self):
        self.assertEqual(triples_after(("begin",), ("point", 1, 3, 1), ("bend", [4, 0, 0, 0, 4, 0, 0, 0, 6])),
                         [(2, 6, 3)])
        self.assertEqual(triples_after(("begin",), ("point", 0, 0, 1), ("bend", [1, 0, 0, 0, 1, 0, 0, 0, -10])),
                         [(0, 0, 1)])

    def test_one_line_stays_one_line(self):
        on_a_line = [("begin",)] + [("point", k, 2 * k + 3, 5) for k in (0, 1, 4, -7)]
        for nine in BENDS:
            with self.subTest(nine=nine):
                places = places_after(*on_a_line, ("bend", list(nine)))
                self.assertEqual(turn(places[0], places[1], places[2]), 0)
                self.assertEqual(turn(places[0], places[1], places[3]), 0)
                self.assertNotEqual(turn(*places_after(*SOME, ("bend", list(nine)))[:3]), 0)

    def test_what_four_on_a_line_come_to_stays(self):
        on_a_line = [("begin",)] + [("point", k, 2 * k + 3, 5) for k in (0, 1, 4, -7)]

        def come_to(places, k):
            a, b, c, d = [place[k] for place in places]
            return Fraction((c - a) * (d - b), (c - b) * (d - a))

        before = come_to(places_after(*on_a_line), 0)
        for nine in BENDS:
            with self.subTest(nine=nine):
                places = places_after(*on_a_line, ("bend", list(nine)))
                k = 0 if len(set(place[0] for place in places)) == 4 else 1
                self.assertEqual(come_to(places, k), before)

    def test_parallels_meet(self):
        calls = [("begin",), ("point", 0, 0, 1), ("point", 0, 1, 1), ("point", 1, 0, 1), ("point", 1, 1, 1)]
        a, b, c, d = places_after(*calls, ("bend", [1, 0, 0, 0, 1, 0, 0, 1, 1]))
        self.assertNotEqual((b[0] - a[0]) * (d[1] - c[1]) - (b[1] - a[1]) * (d[0] - c[0]), 0)

    def test_two_at_one_place_stay_so(self):
        places = places_after(("begin",), ("point", 1, 2, 3), ("point", 2, 4, 6), ("bend", [1, 2, 3, 4, 5, 6, 7, 8, 10]))
        self.assertEqual(places[0], places[1])


class GoesAway(unittest.TestCase):
    def test_a_place_that_goes_away(self):
        row = [1, 0, 0, 0, 1, 0, 1, 1, -3]
        self.assertEqual(first_numbers(("begin",), ("point", 1, 2, 1), ("bend", row), ("points",)), [0, 0, -33, 1])
        self.assertEqual(last_number(("begin",), ("point", 1, 1, 1), ("bend", row)), 0)
        self.assertEqual(last_number(("begin",), ("point", 3, 3, 2), ("bend", row)), -33)
        self.assertEqual(last_number(("begin",), ("bend", row)), 0)

    def test_the_middle_of_the_plane(self):
        self.assertEqual(last_number(("begin",), ("point", 0, 0, 1), ("bend", [0, 0, 1, 0, 1, 0, 1, 0, 0])), -33)

    def test_any_of_the_points(self):
        row = [1, 0, 0, 0, 1, 0, 1, 1, -3]
        for k in range(4):
            with self.subTest(k=k):
                calls = SOME + [("put", k, 1, 2, 1)] + ([] if k == 0 else [("put", 0, 5, 5, 1)])
                before = places_after(*calls)
                self.assertEqual(last_number(*calls, ("bend", row)), -33)
                self.assertEqual(places_after(*calls, ("bend", row)), before)

    def test_ahead_of_too_large(self):
        # The one point would be too far across, the other would go away: in both orders.
        grow = [("bend", [10, 0, 0, 0, 1, 0, 0, 0, 1])] * 6
        row = [10, 0, 0, 0, 1, 0, 0, 1, -2]
        for first, second in (((1000, 1, 1), (0, 2, 1)), ((0, 2, 1), (1000, 1, 1))):
            calls = [("begin",), ("point", *first), ("point", *second)] + grow
            before = places_after(*calls)
            self.assertEqual(last_number(*calls, ("bend", row)), -33)
            self.assertEqual(places_after(*calls, ("bend", row)), before)
        alone = [("begin",), ("point", 1000, 1, 1)] + grow
        self.assertEqual(last_number(*alone, ("bend", row)), -75)

    def test_behind_wrong_numbers(self):
        calls = [("begin",), ("point", 1, 2, 1)]
        self.assertEqual(last_number(*calls, ("bend", [11, 0, 0, 0, 1, 0, 1, 1, -3])), -22)
        self.assertEqual(last_number(*calls, ("bend", [1, 1, -3, 0, 1, 0, 1, 1, -3])), -22)
        self.assertEqual(last_number(*calls, ("bend", [0, 0, 0, 0, 0, 0, 0, 0])), -22)


class TooLarge(unittest.TestCase):
    def test_x_and_y(self):
        for k, far in ((0, (1000, 1, 1)), (0, (-1000, 1, 1)), (4, (1, 1000, 1)), (4, (1, -1000, 1))):
            with self.subTest(far=far):
                grow = list(SAME_NINE)
                grow[k] = 10
                calls = [("begin",), ("point", *far)] + [("bend", grow)] * 6
                self.assertEqual(last_number(*calls), 0)
                before = triples_after(*calls)
                self.assertEqual(max(abs(number) for number in before[0]), BILLION)
                over = list(SAME_NINE)
                over[2 if k == 0 else 5] = 1 if max(far) == 1000 else -1
                self.assertEqual(last_number(*calls, ("bend", over)), -75)
                self.assertEqual(triples_after(*calls, ("bend", over)), before)

    def test_w(self):
        calls = [("begin",), ("point", 1, 1, 1000)] + [SHRINK] * 6
        self.assertEqual(first_numbers(*calls), [0] * 8)
        self.assertEqual(triples_after(*calls), [(1, 1, BILLION)])
        self.assertEqual(first_numbers(*calls, ("bend", [1, 0, 0, 0, 1, 0, 1, 0, 1]), ("points",))[-2:], [-75, 1])
        self.assertEqual(triples_after(*calls, ("bend", [1, 0, 0, 0, 1, 0, 1, 0, 1])), [(1, 1, BILLION)])
        self.assertEqual(last_number(*calls, ("bend", [1, 0, 0, 0, 1, 0, -1, 0, 1])), 0)

    def test_w_with_a_divisor_below_0(self):
        calls = [("begin",), ("point", 1, 1, 1000)] + [SHRINK] * 6
        self.assertEqual(triples_after(*calls, ("bend", [1, 0, 0, 0, 1, 0, 0, 0, -1])), [(-1, -1, BILLION)])
        self.assertEqual(last_number(*calls, ("bend", [1, 0, 0, 0, 1, 0, -1, 0, -1])), -75)
        self.assertEqual(last_number(*calls, ("bend", [1, 0, 0, 0, 1, 0, 1, 0, -1])), 0)

    def test_only_what_is_left_without_the_common_part_counts(self):
        calls = [("begin",), ("point", 10, 10, 1000)] + [SHRINK] * 7
        self.assertEqual(triples_after(*calls), [(1, 1, BILLION)])
        self.assertEqual(last_number(*calls, ("bend", [10, 0, 0, 0, 10, 0, 0, 0, 10])), 0)
        self.assertEqual(last_number(*calls, SHRINK), -75)

    def test_wrong_numbers_ahead_of_it(self):
        calls = [("begin",), ("point", 1, 1, 1000)] + [SHRINK] * 6
        self.assertEqual(last_number(*calls, ("bend", [1, 0, 0, 0, 1, 0, 0, 0, 11])), -22)


class Refused(unittest.TestCase):
    def test_changes_nothing(self):
        before = places_after(*SOME)
        for row in ([], list(SAME_NINE[:8]), [11] + list(SAME_NINE[1:]), [1, 2, 3, 4, 5, 6, 7, 8, 9],
                    [1, 0, 0, 0, 1, 0, 1, 1, -3]):
            with self.subTest(row=row):
                self.assertLess(last_number(*SOME, ("bend", row)), 0)
                self.assertEqual(places_after(*SOME, ("bend", row)), before)
        calls = [("begin",), ("point", 3, 4, 5), ("bend", [0] * 9), ("bend", [])]
        self.assertTrue(is_there(calls, 3, 4, 5))


if __name__ == "__main__":
    unittest.main()
