"""Promise 1: begin, point, put, out; and of promise 3: points."""

import unittest
from math import gcd

from helper import SAME_SLANT, first_numbers, is_there, last_number, places_after, triples_after

TEN = [("begin",)] + [("point", k, -k, 1) for k in range(10)]

# Edges of x, y, w, and whether a point may be told by them.
EDGES = (
    ((1000, 0, 1), True), ((-1000, 0, 1), True), ((1001, 0, 1), False), ((-1001, 0, 1), False),
    ((0, 1000, 1), True), ((0, -1000, 1), True), ((0, 1001, 1), False), ((0, -1001, 1), False),
    ((0, 0, 0), False), ((0, 0, 1), True), ((0, 0, 1000), True), ((0, 0, 1001), False),
    ((1000, -1000, 1000), True), ((1000, -1000, 1001), False), ((5, 7, 0), False),
    ((2147483647, 0, 1), False), ((-2147483648, 0, 1), False), ((0, 2147483647, 1), False),
    ((0, -2147483648, 1), False), ((0, 0, 2147483647), False),
)


class Begin(unittest.TestCase):
    def test_new(self):
        self.assertEqual(first_numbers(("begin",), ("points",)), [0, 0])

    def test_with_points(self):
        calls = [("begin",), ("point", 1, 2, 3), ("point", 4, 5, 6), ("points",), ("begin",), ("points",), ("out",)]
        self.assertEqual(first_numbers(*calls), [0, 0, 1, 2, 0, 0, -2])

    def test_numbers_count_from_0_again(self):
        self.assertEqual(first_numbers(*TEN, ("begin",), ("point", 1, 1, 1))[-2:], [0, 0])

    def test_twice(self):
        self.assertEqual(first_numbers(("begin",), ("begin",), ("points",)), [0, 0, 0])

    def test_every_other_call_ahead_of_it(self):
        others = [
            ("point", 1, 1, 1), ("point", 1001, 0, 0), ("put", 0, 1, 1, 1), ("out",), ("slant", *SAME_SLANT),
            ("slant", 11, 0, 0, 0, 0, 0), ("bend", [1, 0, 0, 0, 1, 0, 0, 0, 1]), ("bend", []), ("bend", [1, 2]),
            ("points",), ("where", 0), ("says", 0, [0, 0]), ("says", 99, []), ("says", 5, [0, 1, 2, 3, 1, 1]),
            ("all", 0), ("all", 99), ("most", 1), ("most", 0), ("keeps", 0, 1, 0, 0, 1), ("keeps", 99, 0, 0, 0, 0),
            ("cross", 0, 1, 2, 3), ("centre", 0, 1, 2),
        ]
        for other in others:
            with self.subTest(other=other):
                self.assertEqual(first_numbers(other), [-61])
                self.assertEqual(first_numbers(other, ("begin",), ("points",)), [-61, 0, 0])
        self.assertEqual(first_numbers(*others, ("begin",), ("points",)), [-61] * len(others) + [0, 0])


class Point(unittest.TestCase):
    def test_numbered_from_0(self):
        calls = [("begin",), ("point", 3, 4, 1), ("point", 3, 4, 1), ("point", -3, 4, 5), ("points",)]
        self.assertEqual(first_numbers(*calls), [0, 0, 1, 2, 3])

    def test_edges(self):
        for numbers, allowed in EDGES:
            with self.subTest(numbers=numbers):
                calls = [("begin",), ("point", 1, 1, 1), ("point", *numbers), ("points",)]
                self.assertEqual(first_numbers(*calls)[2:], [1, 2] if allowed else [-22, 1])

    def test_ten_at_most(self):
        self.assertEqual(first_numbers(*TEN), [0] + list(range(10)))
        self.assertEqual(first_numbers(*TEN, ("point", 1, 1, 1), ("points",))[-2:], [-28, 10])

    def test_room_again_when_one_is_out(self):
        calls = TEN + [("out",), ("point", 1, 1, 1), ("point", 1, 1, 1)]
        self.assertEqual(first_numbers(*calls)[-3:], [9, 9, -28])

    def test_wrong_numbers_ahead_of_no_room(self):
        for numbers, allowed in EDGES:
            with self.subTest(numbers=numbers):
                self.assertEqual(last_number(*TEN, ("point", *numbers)), -28 if allowed else -22)

    def test_where_it_is(self):
        for x, y, w in ((3, 4, 1), (-3, 4, 5), (0, 0, 7), (0, -1, 10), (9, 9, 9)):
            with self.subTest(x=x, y=y, w=w):
                calls = [("begin",), ("point", x, y, w)]
                self.assertTrue(is_there(calls, x, y, w))
                self.assertFalse(is_there(calls, x + 1, y, w))
                self.assertFalse(is_there(calls, x, y + 1, w))

    def test_nothing_in_common(self):
        for x, y, w in ((6, 4, 2), (6, 3, 2), (0, 0, 1000), (1000, -1000, 1000), (0, -15, 10), (12, 18, 30), (1, 1, 1)):
            with self.subTest(x=x, y=y, w=w):
                common = gcd(x, y, w)
                kept = triples_after(("begin",), ("point", x, y, w))
                self.assertEqual(kept, [(x // common, y // common, w // common)])

    def test_refused_changes_nothing(self):
        before = places_after(*TEN)
        self.assertEqual(places_after(*TEN, ("point", 1, 1, 1)), before)
        self.assertEqual(places_after(*TEN, ("point", 1, 1, 0)), before)


class Put(unittest.TestCase):
    START = [("begin",), ("point", 1, 2, 1), ("point", 3, 4, 1)]

    def test_moves_one(self):
        self.assertEqual(first_numbers(*self.START, ("put", 0, -5, 6, 7), ("points",))[-2:], [0, 2])
        self.assertEqual(places_after(*self.START, ("put", 0, -5, 6, 7)),
                         places_after(("begin",), ("point", -5, 6, 7), ("point", 3, 4, 1)))
        self.assertEqual(triples_after(*self.START, ("put", 1, 10, 4, 2)), [(1, 2, 1), (5, 2, 1)])

    def test_where_it_is(self):
        calls = [("begin",), ("point", 1, 2, 1), ("put", 0, -5, 6, 7)]
        self.assertTrue(is_there(calls, -5, 6, 7))
        self.assertFalse(is_there(calls, 1, 2, 1))

    def test_no_such_point(self):
        for p in (2, 3, 9, 10, 2147483647):
            with self.subTest(p=p):
                self.assertEqual(last_number(*self.START, ("put", p, 1, 1, 1)), -2)
        self.assertEqual(last_number(("begin",), ("put", 0, 1, 1, 1)), -2)
        self.assertEqual(last_number(*self.START, ("put", 1, 1, 1, 1)), 0)
        self.assertEqual(last_number(*self.START, ("out",), ("put", 1, 1, 1, 1)), -2)

    def test_edges(self):
        for numbers, allowed in EDGES:
            with self.subTest(numbers=numbers):
                self.assertEqual(last_number(*self.START, ("put", 1, *numbers)), 0 if allowed else -22)

    def test_no_point_ahead_of_wrong_numbers(self):
        for numbers, allowed in EDGES:
            with self.subTest(numbers=numbers):
                self.assertEqual(last_number(*self.START, ("put", 2, *numbers)), -2)

    def test_with_ten(self):
        self.assertEqual(first_numbers(*TEN, ("put", 9, 1, 1, 1), ("put", 10, 1, 1, 1))[-2:], [0, -2])

    def test_refused_changes_nothing(self):
        before = places_after(*self.START)
        for wrong in ((2, 1, 1, 1), (0, 1001, 0, 1), (0, 0, -1001, 1), (1, 0, 0, 0), (1, 0, 0, 1001)):
            with self.subTest(wrong=wrong):
                self.assertEqual(places_after(*self.START, ("put", *wrong)), before)


class Out(unittest.TestCase):
    def test_with_none(self):
        self.assertEqual(first_numbers(("begin",), ("out",), ("points",)), [0, -2, 0])

    def test_how_many_are_left(self):
        calls = TEN + [("out",)] * 11 + [("points",)]
        self.assertEqual(first_numbers(*calls)[11:], [9, 8, 7, 6, 5, 4, 3, 2, 1, 0, -2, 0])

    def test_the_last_is_gone(self):
        self.assertEqual(places_after(*TEN, ("out",), ("out",)), places_after(*TEN[:9]))

    def test_the_last_and_not_the_one_put_last(self):
        calls = [("begin",), ("point", 1, 2, 1), ("point", 3, 4, 1), ("put", 0, 5, 6, 1), ("out",)]
        self.assertTrue(is_there(calls, 5, 6, 1))
        self.assertFalse(is_there(calls, 3, 4, 1))


class Points(unittest.TestCase):
    def test_looking_changes_nothing(self):
        self.assertEqual(places_after(*TEN, ("points",), ("points",)), places_after(*TEN))
        self.assertEqual(first_numbers(*TEN, ("points",), ("points",))[-2:], [10, 10])


if __name__ == "__main__":
    unittest.main()
