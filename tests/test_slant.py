"""Promise 2: slant."""

import unittest
from fractions import Fraction

from helper import SAME_SLANT, first_numbers, is_there, last_number, places_after, triples_after

SOME = [("begin",), ("point", 1, 2, 1), ("point", -3, 5, 4), ("point", 0, 0, 1), ("point", 1000, -7, 9)]
TURNED_OVER = (1, 0, 0, -1, 0, 0)
BILLION = 10 ** 9


def area(p, q, r):
    return (q[0] - p[0]) * (r[1] - p[1]) - (q[1] - p[1]) * (r[0] - p[0])


def slanted(place, six):
    a, b, c, d, e, f = six
    x, y = place
    return (a * x + b * y + e, c * x + d * y + f)


class Numbers(unittest.TestCase):
    def test_each_of_the_six(self):
        for k in range(6):
            for size, answer in ((10, 0), (-10, 0), (11, -22), (-11, -22), (2147483647, -22), (-2147483648, -22)):
                with self.subTest(k=k, size=size):
                    six = list(SAME_SLANT)
                    six[k] = size
                    self.assertEqual(last_number(("begin",), ("slant", *six)), answer)
                    self.assertEqual(first_numbers(*SOME, ("slant", *six), ("points",))[-2:], [answer, 4])

    def test_measure_0(self):
        for six in ((0, 0, 0, 0, 0, 0), (1, 2, 2, 4, 5, 6), (0, 0, 3, 4, 1, 1), (10, -10, -10, 10, 0, 0),
                    (0, 5, 0, 7, 0, 0), (2, 3, 4, 6, 10, 10)):
            with self.subTest(six=six):
                self.assertEqual(last_number(("begin",), ("slant", *six)), -22)
                self.assertEqual(last_number(*SOME, ("slant", *six)), -22)

    def test_measure_that_only_looks_like_0(self):
        for six in ((0, 1, 1, 0, 0, 0), (1, 1, 1, 2, 0, 0), (2, 2, -2, 2, 0, 0), (1, 2, 4, 2, 0, 0), (2, 4, 2, 1, 0, 0)):
            with self.subTest(six=six):
                self.assertEqual(last_number(*SOME, ("slant", *six)), 0)


class Brought(unittest.TestCase):
    def test_no_point(self):
        self.assertEqual(first_numbers(("begin",), ("slant", 2, 3, 5, 7, 1, 1), ("points",)), [0, 0, 0])

    def test_each_number_has_its_place(self):
        calls = [("begin",), ("point", 1, 2, 3)]
        self.assertTrue(is_there(calls + [("slant", 2, 0, 0, 1, 0, 0)], 2, 2, 3))
        self.assertTrue(is_there(calls + [("slant", 1, 1, 0, 1, 0, 0)], 3, 2, 3))
        self.assertTrue(is_there(calls + [("slant", 1, 0, 1, 1, 0, 0)], 1, 3, 3))
        self.assertTrue(is_there(calls + [("slant", 1, 0, 0, 2, 0, 0)], 1, 4, 3))
        self.assertTrue(is_there(calls + [("slant", 1, 0, 0, 1, 1, 0)], 4, 2, 3))
        self.assertTrue(is_there(calls + [("slant", 1, 0, 0, 1, 0, 1)], 1, 5, 3))
        self.assertFalse(is_there(calls + [("slant", 1, 0, 0, 1, 0, 1)], 1, 2, 3))

    def test_all_points(self):
        for six in (SAME_SLANT, TURNED_OVER, (2, 3, 5, 7, 4, 6), (-10, 9, 8, -7, 6, -5), (0, 1, 1, 0, 0, 0),
                    (0, -1, 1, 0, -10, 10)):
            with self.subTest(six=six):
                expected = [slanted(place, six) for place in places_after(*SOME)]
                self.assertEqual(last_number(*SOME, ("slant", *six)), 0)
                self.assertEqual(places_after(*SOME, ("slant", *six)), expected)

    def test_turned_over(self):
        calls = [("begin",), ("point", 3, 4, 5), ("slant", *TURNED_OVER)]
        self.assertEqual(last_number(*calls), 0)
        self.assertTrue(is_there(calls, 3, -4, 5))
        self.assertTrue(is_there(calls + [("slant", *TURNED_OVER)], 3, 4, 5))

    def test_two_at_one_place_stay_so(self):
        places = places_after(("begin",), ("point", 1, 2, 3), ("point", 2, 4, 6), ("slant", 2, 3, 5, 7, 4, 6))
        self.assertEqual(places[0], places[1])

    def test_a_later_point_is_not_slanted(self):
        calls = [("begin",), ("slant", 2, 0, 0, 2, 1, 1), ("point", 3, 4, 1)]
        self.assertTrue(is_there(calls, 3, 4, 1))

    def test_nothing_in_common(self):
        self.assertEqual(triples_after(("begin",), ("point", 1, 3, 10), ("slant", 10, 0, 0, 10, 0, 0)), [(1, 3, 1)])
        self.assertEqual(triples_after(("begin",), ("point", 1, 3, 10), ("slant", 5, 0, 0, 1, 0, 0)), [(5, 3, 10)])

    def test_areas_all_grow_alike(self):
        for six in (TURNED_OVER, (2, 3, 5, 7, 4, 6), (-10, 9, 8, -7, 6, -5)):
            before = places_after(*SOME)
            after = places_after(*SOME, ("slant", *six))
            grown = six[0] * six[3] - six[1] * six[2]
            for p, q, r in ((0, 1, 2), (0, 1, 3), (1, 2, 3), (3, 0, 2)):
                with self.subTest(six=six, p=p, q=q, r=r):
                    self.assertEqual(area(after[p], after[q], after[r]),
                                     grown * area(before[p], before[q], before[r]))

    def test_a_middle_stays_the_middle(self):
        places = places_after(("begin",), ("point", 1, 5, 2), ("point", 3, 8, 1), ("point", -2, -3, 1),
                              ("slant", 2, -3, 5, 7, 4, 6))
        self.assertEqual(places[0], (Fraction(places[1][0] + places[2][0], 2), Fraction(places[1][1] + places[2][1], 2)))


class TooLarge(unittest.TestCase):
    def at_the_edge(self, sign, up):
        """A point that has 10^9 or -10^9 as its x or y, and 1 as the other."""
        far = (1, sign * 1000, 1) if up else (sign * 1000, 1, 1)
        grow = (1, 0, 0, 10, 0, 0) if up else (10, 0, 0, 1, 0, 0)
        return [("begin",), ("point", *far)] + [("slant", *grow)] * 6

    def test_x_and_y_at_the_edge(self):
        for up in (False, True):
            for sign in (1, -1):
                with self.subTest(up=up, sign=sign):
                    calls = self.at_the_edge(sign, up)
                    edge = (1, sign * BILLION, 1) if up else (sign * BILLION, 1, 1)
                    self.assertEqual(last_number(*calls), 0)
                    self.assertEqual(triples_after(*calls), [edge])
                    over = (1, 0, 0, 1, 0, sign) if up else (1, 0, 0, 1, sign, 0)
                    back = (1, 0, 0, 1, 0, -sign) if up else (1, 0, 0, 1, -sign, 0)
                    self.assertEqual(first_numbers(*calls, ("slant", *over), ("points",))[-2:], [-75, 1])
                    self.assertEqual(triples_after(*calls, ("slant", *over)), [edge])
                    self.assertEqual(first_numbers(*calls, ("slant", *over), ("slant", *back), ("slant", *over),
                                                   ("slant", *over))[-4:], [-75, 0, 0, -75])

    def test_w_at_the_edge(self):
        # A slant leaves w as it is or makes it less, so at 10^9 it is answered 0 still.
        grow = ("bend", [1, 0, 0, 0, 1, 0, 0, 0, 10])
        calls = [("begin",), ("point", 1, 1, 1000)] + [grow] * 6
        self.assertEqual(triples_after(*calls), [(1, 1, BILLION)])
        self.assertEqual(last_number(*calls, ("slant", 3, 0, 0, 7, 0, 0)), 0)
        self.assertEqual(triples_after(*calls, ("slant", 3, 0, 0, 7, 0, 0)), [(3, 7, BILLION)])
        self.assertEqual(last_number(*calls, ("slant", 1, 0, 0, 1, 1, 0)), -75)
        self.assertEqual(last_number(*calls, ("slant", 1, 0, 0, 1, 0, 1)), -75)
        self.assertEqual(last_number(*calls, ("slant", 1, 0, 0, 1, -1, -1)), 0)
        self.assertEqual(triples_after(*calls, ("slant", 1, 0, 0, 1, 1, 0)), [(1, 1, BILLION)])

    def test_only_what_is_left_without_the_common_part_counts(self):
        calls = [("begin",), ("point", 1000, 1, 10), ("point", 999, 1, 10)]
        calls += [("slant", 10, 0, 0, 1, 0, 0)] * 6
        self.assertEqual(triples_after(*calls)[0], (BILLION, 1, 10))
        self.assertEqual(last_number(*calls, ("slant", 10, 0, 0, 10, 0, 0)), 0)
        self.assertEqual(triples_after(*calls, ("slant", 10, 0, 0, 10, 0, 0))[0], (BILLION, 1, 1))
        self.assertEqual(last_number(*calls, ("slant", 10, 0, 0, 1, 0, 0)), -75)

    def test_one_of_several_points(self):
        for others in ([("point", 1, 1, 1)], [("point", 0, 0, 1), ("point", 2, 3, 5)]):
            calls = self.at_the_edge(1, False) + others
            before = places_after(*calls)
            self.assertEqual(last_number(*calls, ("slant", 1, 0, 0, 1, 1, 0)), -75)
            self.assertEqual(places_after(*calls, ("slant", 1, 0, 0, 1, 1, 0)), before)

    def test_the_last_of_several_points(self):
        calls = [("begin",), ("point", 1, 2, 3), ("point", 1000, 1, 1)] + [("slant", 10, 0, 0, 1, 0, 0)] * 6
        before = places_after(*calls)
        self.assertEqual(last_number(*calls, ("slant", 1, 1, 0, 1, 0, 0)), -75)
        self.assertEqual(places_after(*calls, ("slant", 1, 1, 0, 1, 0, 0)), before)

    def test_wrong_numbers_ahead_of_too_large(self):
        calls = self.at_the_edge(1, False)
        self.assertEqual(last_number(*calls, ("slant", 11, 0, 0, 1, 0, 0)), -22)
        self.assertEqual(last_number(*calls, ("slant", 10, 0, 0, 0, 0, 0)), -22)


class Refused(unittest.TestCase):
    def test_changes_nothing(self):
        before = places_after(*SOME)
        for six in ((11, 0, 0, 1, 0, 0), (1, 0, 0, 1, 0, -11), (1, 2, 2, 4, 0, 0)):
            with self.subTest(six=six):
                self.assertEqual(places_after(*SOME, ("slant", *six)), before)
        calls = [("begin",), ("point", 3, 4, 5), ("slant", 1, 2, 2, 4, 1, 1)]
        self.assertTrue(is_there(calls, 3, 4, 5))


if __name__ == "__main__":
    unittest.main()
