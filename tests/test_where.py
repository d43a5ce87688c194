"""where: how far across and how far up a point is."""

import unittest

from helper import answer_after, flat, placed, split_answers

from pointsayings.plane import answers


def where(*place):
    return answer_after(*placed(place), ("where", 0))


class Where(unittest.TestCase):
    def test_no_such_point(self):
        self.assertEqual(answer_after(("begin",), ("where", 0)), [-2])
        for count in range(1, 11):
            start = placed(*[(k, k) for k in range(count)])
            self.assertEqual(answer_after(*start, ("where", count)), [-2])
            self.assertEqual(answer_after(*start, ("where", count - 1)), [0, count - 1, 1, count - 1, 1])
            self.assertEqual(answer_after(*start, ("where", 2147483647)), [-2])
        self.assertEqual(answer_after(*placed((1, 1), (2, 2)), ("out",), ("where", 1)), [-2])
        self.assertEqual(answer_after(*placed((1, 1)), ("begin",), ("where", 0)), [-2])

    def test_not_begun(self):
        self.assertEqual(answer_after(("where", 0)), [-61])

    def test_whole_places(self):
        self.assertEqual(where(3, 4, 1), [0, 3, 1, 4, 1])
        self.assertEqual(where(1000, -1000, 1), [0, 1000, 1, -1000, 1])
        self.assertEqual(where(6, 8, 2), [0, 3, 1, 4, 1])
        self.assertEqual(where(-6, -8, 2), [0, -3, 1, -4, 1])

    def test_nothing(self):
        self.assertEqual(where(0, 0, 1), [0, 0, 1, 0, 1])
        self.assertEqual(where(0, 0, 1000), [0, 0, 1, 0, 1])
        self.assertEqual(where(0, 3, 5), [0, 0, 1, 3, 5])
        self.assertEqual(where(3, 0, 5), [0, 3, 5, 0, 1])

    def test_fractions(self):
        self.assertEqual(where(3, 4, 5), [0, 3, 5, 4, 5])
        self.assertEqual(where(-3, 4, 5), [0, -3, 5, 4, 5])
        self.assertEqual(where(3, -4, 5), [0, 3, 5, -4, 5])
        self.assertEqual(where(1, 1, 1000), [0, 1, 1000, 1, 1000])
        self.assertEqual(where(999, -999, 1000), [0, 999, 1000, -999, 1000])

    def test_two_numbers_below(self):
        self.assertEqual(where(1, 2, 6), [0, 1, 6, 1, 3])
        self.assertEqual(where(2, 3, 6), [0, 1, 3, 1, 2])
        self.assertEqual(where(-6, 5, 6), [0, -1, 1, 5, 6])
        self.assertEqual(where(-10, 15, 12), [0, -5, 6, 5, 4])

    def test_behind_put(self):
        start = placed((1, 2, 3), (4, 5, 6))
        self.assertEqual(answer_after(*start, ("put", 1, 7, 8, 10), ("where", 1)), [0, 7, 10, 4, 5])
        self.assertEqual(answer_after(*start, ("put", 1, 7, 8, 10), ("where", 0)), [0, 1, 3, 2, 3])

    def test_behind_a_slant(self):
        calls = placed((1, 2, 3)) + [("slant", 1, 1, 2, -1, 4, -5), ("where", 0)]
        self.assertEqual(answer_after(*calls), [0, 5, 1, -5, 1])
        calls = placed((1, 2, 4)) + [("slant", 2, 0, 0, 3, 0, 1), ("where", 0)]
        self.assertEqual(answer_after(*calls), [0, 1, 2, 5, 2])

    def test_behind_a_bend(self):
        calls = placed((1, 2)) + [("bend", [1, 0, 0, 0, 1, 0, 1, 1, 1]), ("where", 0)]
        self.assertEqual(answer_after(*calls), [0, 1, 4, 1, 2])
        calls = placed((1, 2)) + [("bend", [1, 0, 0, 0, 1, 0, -1, -1, 1]), ("where", 0)]
        self.assertEqual(answer_after(*calls), [0, -1, 2, -1, 1])

    def test_largest(self):
        ten_times = [("slant", 10, 0, 0, 10, 0, 0)] * 6
        self.assertEqual(answer_after(*placed((1000, -1000)), *ten_times, ("where", 0)), [0, 10 ** 9, 1, -10 ** 9, 1])
        by_ten = [("bend", [1, 0, 0, 0, 1, 0, 0, 0, 10])] * 6
        self.assertEqual(answer_after(*placed((1, 7, 1000)), *by_ten, ("where", 0)), [0, 1, 10 ** 9, 7, 10 ** 9])

    def test_counts(self):
        given = answers(flat(placed((1, 2, 6)) + [("where", 0), ("where", 1)]))
        self.assertEqual(given, [1, 0, 1, 0, 5, 0, 1, 6, 1, 3, 1, -2])
        self.assertEqual(split_answers(given)[2:], [[0, 1, 6, 1, 3], [-2]])


if __name__ == "__main__":
    unittest.main()
