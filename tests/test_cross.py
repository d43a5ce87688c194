"""cross: what four points on one line come to."""

import unittest
from itertools import permutations

from helper import answer_after, first_numbers, placed

LARGEST = 10 ** 15
GREATEST = 2147483647


def cross(*places):
    return answer_after(*placed(*places), ("cross", 0, 1, 2, 3))


def across(*numbers):
    return cross(*[(x, 7) for x in numbers])


def far_out(a, *others):
    """Calls that bring point 0 to a across (far more than may be placed), and place the others behind it."""
    digits = [int(sign) for sign in str(a)]
    calls = placed((digits[0], 0)) + [("slant", 10, 0, 0, 10, digit, 0) for digit in digits[1:]]
    return calls + [("point", x, 0, w) for x, w in others]


class Told(unittest.TestCase):
    def test_ordinary(self):
        # From 0 to 2 is 2 times the way from 1 to 2; from 0 to 4 is 4 by 3 of that from 1 to 4.
        self.assertEqual(across(0, 1, 2, 4), [0, 3, 2])
        self.assertEqual(across(0, 2, 1, 3), [0, -1, 3])
        self.assertEqual(across(0, 1, 2, 3), [0, 4, 3])
        self.assertEqual(across(0, 3, 1, 2), [0, 1, 4])
        self.assertEqual(across(0, 4, 1, -2), [0, -1, 1])
        self.assertEqual(across(0, 1, -1, 3), [0, 1, 3])
        self.assertEqual(across(0, 6, 3, 5), [0, 1, 5])
        self.assertEqual(across(0, 1, 4, 2), [0, 2, 3])
        self.assertEqual(across(3, 0, 1, 2), [0, 4, 1])

    def test_below_nothing(self):
        # Just one of c and d is between a and b.
        self.assertEqual(across(0, 10, 5, 20), [0, -1, 2])
        self.assertEqual(across(0, 10, 20, 5), [0, -2, 1])
        self.assertEqual(across(0, 10, 5, -20), [0, -3, 2])
        self.assertEqual(across(10, 0, 5, -20), [0, -2, 3])

    def test_each_line(self):
        for x, y in ((1, 0), (0, 1), (-1, 0), (0, -1), (1, 1), (2, -3), (-5, 7), (1, 200), (200, -1)):
            self.assertEqual(cross(*[(3 + k * x, 5 + k * y) for k in (0, 1, 2, 4)]), [0, 3, 2], (x, y))

    def test_straight_up_and_across(self):
        self.assertEqual(cross((3, 0), (3, 1), (3, 2), (3, 4)), [0, 3, 2])
        self.assertEqual(cross((0, 3), (1, 3), (2, 3), (4, 3)), [0, 3, 2])
        self.assertEqual(cross((1, 0, 3), (2, 6, 6), (2, 12, 6), (1, 12, 3)), [0, 3, 2])

    def test_fractions(self):
        self.assertEqual(cross((1, 1, 2), (1, 1, 3), (1, 1, 4), (1, 1, 5)), [0, 4, 3])
        self.assertEqual(cross((0, 0), (1, 2, 3), (1, 2, 2), (1, 2, 5)), [0, -2, 1])

    def test_every_order(self):
        lying = (0, 1, 3, 7)
        seen = set()
        for order in permutations(range(4)):
            answer = answer_after(*placed(*[(x, 2 * x) for x in lying]), ("cross", *order))
            a, b, c, d = (lying[k] for k in order)
            above, below = (c - a) * (d - b), (c - b) * (d - a)
            self.assertEqual(answer[0], 0)
            self.assertEqual(answer[1] * below, answer[2] * above)
            self.assertGreaterEqual(answer[2], 1)
            seen.add(tuple(answer))
        self.assertEqual(len(seen), 6)

    def test_the_same_behind_slants_and_bends(self):
        moves = [("slant", 2, 1, -1, 3, 4, 5), ("bend", [1, 2, 3, 4, 5, 6, 7, 8, 10]), ("slant", 0, 1, 1, 0, -3, 3),
                 ("bend", [0, 1, 0, 1, 0, 2, 1, 1, 1]), ("bend", [1, 0, 0, 0, 1, 0, 3, -2, -5])]
        start = placed((0, 1), (1, 3), (2, 5), (4, 9), (-1, -1), (1, 4, 2))
        # Along the line they are at 0, 1, 2, 4, -1 and 1 by 2 (and so often 1 across).
        for row, answer in (((0, 1, 2, 3), [0, 3, 2]), ((4, 1, 5, 3), [0, -9, 5]), ((3, 0, 4, 2), [0, -5, 1])):
            for count in range(len(moves) + 1):
                calls = start + moves[:count] + [("cross", *row)]
                self.assertEqual(first_numbers(*calls)[len(start):-1], [0] * count)
                self.assertEqual(answer_after(*calls), answer, (row, count))


class Refused(unittest.TestCase):
    def test_no_such_point(self):
        for count in range(11):
            start = placed(*[(k, k) for k in range(count)])
            for k in range(4):
                for missing in (count, count + 1, GREATEST):
                    row = [count - 1 - j if count > j else 0 for j in range(4)]
                    row[k] = missing
                    self.assertEqual(answer_after(*start, ("cross", *row)), [-2], row)
        self.assertEqual(answer_after(*placed((0, 0), (1, 1), (2, 2), (3, 3)), ("out",), ("cross", 0, 1, 2, 3)), [-2])

    def test_no_point_ahead_of_the_others(self):
        self.assertEqual(answer_after(*placed((0, 0), (0, 0), (0, 0)), ("cross", 0, 1, 2, 3)), [-2])
        self.assertEqual(answer_after(*placed((0, 0), (0, 0), (0, 0)), ("cross", 0, 0, 0, 0)), [-33])

    def test_two_at_one_place(self):
        for first in range(4):
            for second in range(first + 1, 4):
                places = [(0, 0), (1, 2), (2, 4), (3, 6)]
                places[second] = (3 * places[first][0], 3 * places[first][1], 3)
                self.assertEqual(cross(*places), [-33])
                row = [0, 1, 2, 3]
                row[second] = first
                self.assertEqual(answer_after(*placed((0, 0), (1, 2), (2, 4), (3, 6)), ("cross", *row)), [-33])
        self.assertEqual(cross(*[(1, 1)] * 4), [-33])

    def test_one_off_the_line(self):
        for off in range(4):
            for x, y in ((1, 2), (0, 1), (1, 0)):
                places = [(k * x, k * y) for k in range(4)]
                self.assertEqual(cross(*places)[0], 0)
                places[off] = (places[off][0] + y, places[off][1] + x + 5 * y)
                if (x, y) == (0, 1):
                    places[off] = (1, off)
                self.assertEqual(cross(*places), [-33], places)
                # Two at one place too.
                places[(off + 1) % 4] = places[(off + 2) % 4]
                self.assertEqual(cross(*places), [-33], places)
        self.assertEqual(cross((0, 0), (1, 0), (0, 1), (1, 1)), [-33])

    def test_not_begun(self):
        self.assertEqual(answer_after(("cross", 0, 1, 2, 3)), [-61])


class TooLarge(unittest.TestCase):
    """a is at a whole number far out, c at 0, b and d near it."""

    def check(self, calls, row, answer):
        self.assertEqual(answer_after(*calls, ("cross", *row)), answer)

    def test_at_the_edge(self):
        calls = far_out(10 ** 9, (999, 1000), (0, 1), (-1, 1000))
        self.assertEqual(answer_after(*calls, ("where", 0)), [0, 10 ** 9, 1, 0, 1])
        below = 999 * (10 ** 12 + 1)
        self.check(calls, (0, 1, 2, 3), [0, LARGEST, below])
        self.check(calls, (1, 0, 2, 3), [0, below, LARGEST])
        # Of this one the numbers above would be below 0.
        self.check(calls, (0, 2, 1, 3), [0, below - LARGEST, below])

    def test_one_above_it(self):
        calls = far_out(769223077, (1000, 879), (0, 1), (-347, 995))
        above, below = LARGEST + 1, 765376961962000
        # The two numbers that would be told have nothing in common, and come of these places:
        a, b, d = 769223077, (1000, 879), (-347, 995)
        self.assertEqual(a * (b[0] * d[1] - d[0] * b[1]), above)
        self.assertEqual(b[0] * (a * d[1] - d[0]), below)
        self.check(calls, (0, 1, 2, 3), [-75])
        self.check(calls, (1, 0, 2, 3), [-75])
        # 1 less is told by the same number below.
        self.check(calls, (0, 2, 1, 3), [0, below - above, below])

    def test_below_nothing(self):
        # a at 0, d at 1, c at n, b at n - 1: this comes to minus n times n - 2.
        n = 31622777
        self.assertTrue(n * (n - 2) <= LARGEST < (n + 1) * (n - 1))
        for large, above, inverse in ((n, [0, -n * (n - 2), 1], [0, -1, n * (n - 2)]), (n + 1, [-75], [-75])):
            calls = self.neighbours(large) + [("point", 0, 0, 1), ("point", 1, 0, 1)]
            self.assertEqual(answer_after(*calls, ("where", 0)), [0, large - 1, 1, 0, 1])
            self.assertEqual(answer_after(*calls, ("where", 1)), [0, large, 1, 0, 1])
            self.check(calls, (2, 0, 1, 3), above)
            self.check(calls, (0, 2, 1, 3), inverse)

    def neighbours(self, n):
        """Calls that bring point 0 to n - 1 across, point 1 to n."""
        digits = [int(sign) for sign in str(n)]
        calls = placed((0, 0), (1, 0))
        # First nearer to each other, as many times as they are stretched later.
        calls += [("bend", [1, 0, 0, 0, 1, 0, 0, 0, 10])] * (len(digits) - 1)
        calls += [("slant", 1, 0, 0, 1, digits[0], 0)]
        calls += [("slant", 10, 0, 0, 10, digit, 0) for digit in digits[1:]]
        return calls + [("slant", 1, 0, 0, 1, -1, 0)]


if __name__ == "__main__":
    unittest.main()
