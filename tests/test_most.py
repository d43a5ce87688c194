"""most: the most points on one line, and on one circle or line."""

import random
import unittest
from itertools import combinations

from helper import answer_after, answers, flat, placed, split_answers

LINE, CIRCLE = 1, 6


def most(kind, *places):
    return answer_after(*placed(*places), ("most", kind))


class OnALine(unittest.TestCase):
    def test_few_points(self):
        self.assertEqual(most(LINE), [0])
        self.assertEqual(most(LINE, (3, 4)), [1, 0])
        self.assertEqual(most(LINE, (3, 4), (5, 6)), [2, 0, 1])
        self.assertEqual(most(LINE, (3, 4), (3, 4)), [2, 0, 1])
        self.assertEqual(most(LINE, (0, 0), (1, 0), (0, 1)), [2, 0, 1])
        self.assertEqual(most(LINE, (0, 0), (1, 1), (2, 2)), [3, 0, 1, 2])
        self.assertEqual(most(LINE, (0, 0), (1, 0), (0, 1), (1, 1)), [2, 0, 1])
        self.assertEqual(most(LINE, (0, 0), (1, 0), (0, 1), (2, 0)), [3, 0, 1, 3])

    def test_largest_without_the_first(self):
        self.assertEqual(most(LINE, (0, 7), (1, 0), (2, 0), (9, 9), (3, 0)), [3, 1, 2, 4])
        self.assertEqual(most(LINE, (0, 0), (1, 1), (2, 2), (3, 4), (3, 5), (3, 6), (3, 7)), [4, 3, 4, 5, 6])

    def test_several_as_large(self):
        self.assertEqual(most(LINE, (0, 0), (1, 1), (2, 2), (0, 1), (0, 2)), [3, 0, 1, 2])
        self.assertEqual(most(LINE, (0, 0), (0, 1), (1, 1), (0, 2), (2, 2)), [3, 0, 1, 3])
        self.assertEqual(most(LINE, (1, 0), (0, 1), (0, 2), (0, 5), (2, 0), (3, 0)), [3, 0, 4, 5])
        self.assertEqual(most(LINE, (0, 0), (1, 0), (0, 1), (0, 2), (2, 0)), [3, 0, 1, 4])

    def test_points_at_one_place(self):
        self.assertEqual(most(LINE, (1, 1), (1, 1), (1, 1)), [3, 0, 1, 2])
        self.assertEqual(most(LINE, (1, 1), (5, 2), (1, 1)), [3, 0, 1, 2])
        # Through a place with two points and either of the others.
        self.assertEqual(most(LINE, (0, 0), (1, 0), (0, 1), (0, 0)), [3, 0, 1, 3])
        self.assertEqual(most(LINE, (0, 1), (0, 0), (0, 0), (5, 5), (3, 2), (3, 2)), [4, 1, 2, 4, 5])
        self.assertEqual(most(LINE, *[(2, 4, 6)] * 10), [10] + list(range(10)))

    def test_fractions(self):
        self.assertEqual(most(LINE, (1, 2, 3), (1, 1, 2), (0, 0), (-3, 4, 1), (5, 0, 5)), [4, 0, 1, 3, 4])

    def test_ten(self):
        self.assertEqual(most(LINE, *[(k, 3 * k - 5) for k in range(10)]), [10] + list(range(10)))
        self.assertEqual(most(LINE, *[(k, k * k) for k in range(10)]), [2, 0, 1])


class OnACircle(unittest.TestCase):
    def test_few_points(self):
        self.assertEqual(most(CIRCLE), [0])
        self.assertEqual(most(CIRCLE, (3, 4)), [1, 0])
        self.assertEqual(most(CIRCLE, (3, 4), (5, 6)), [2, 0, 1])
        self.assertEqual(most(CIRCLE, (0, 0), (1, 0), (0, 1)), [3, 0, 1, 2])
        self.assertEqual(most(CIRCLE, (0, 0), (1, 1), (2, 2)), [3, 0, 1, 2])
        self.assertEqual(most(CIRCLE, (0, 0), (1, 0), (0, 1), (1, 1)), [4, 0, 1, 2, 3])
        self.assertEqual(most(CIRCLE, (0, 0), (1, 0), (0, 1), (2, 1)), [3, 0, 1, 2])
        self.assertEqual(most(CIRCLE, (0, 0), (1, 1), (2, 2), (0, 1)), [3, 0, 1, 2])

    def test_all_on_one_line(self):
        for count in range(11):
            answer = [count] + list(range(count))
            self.assertEqual(most(CIRCLE, *[(2 * k, 1 - k, 3) for k in range(count)]), answer)

    def test_largest_without_the_first(self):
        self.assertEqual(most(CIRCLE, (1, 1), (5, 0), (0, 5), (9, 8), (-5, 0), (3, 4)), [4, 1, 2, 4, 5])
        self.assertEqual(most(CIRCLE, (0, 0), (1, 0), (0, 1), (1, 1), (7, 7), (7, 8), (7, 9), (7, 11), (7, 15)),
                         [5, 4, 5, 6, 7, 8])

    def test_several_as_large(self):
        self.assertEqual(most(CIRCLE, (0, 0), (1, 0), (0, 1), (1, 1), (3, 0), (0, 7)), [4, 0, 1, 2, 3])
        two = [(0, 0), (5, 0), (9, 0), (1, 0), (0, 5), (0, 1), (9, 9)]
        # (1, 0), (0, 1), (5, 0), (0, 5) are on one circle, the first four on one line.
        self.assertEqual(most(CIRCLE, *two), [4, 0, 1, 2, 3])
        two = [(9, 9), (0, 5), (0, 1), (5, 0), (9, 0), (1, 0), (0, 0)]
        self.assertEqual(most(CIRCLE, *two), [4, 1, 2, 3, 5])

    def test_points_at_one_place(self):
        self.assertEqual(most(CIRCLE, (1, 1), (1, 1), (0, 0), (5, 2)), [4, 0, 1, 2, 3])
        self.assertEqual(most(CIRCLE, (0, 0), (1, 1), (2, 2), (0, 1), (0, 1)), [4, 0, 1, 3, 4])
        self.assertEqual(most(CIRCLE, *[(0, 0)] * 7, (1, 0), (0, 1), (4, 9)), [9, 0, 1, 2, 3, 4, 5, 6, 7, 8])
        self.assertEqual(most(CIRCLE, (1, 0), (0, 1), (4, 9), *[(0, 0)] * 7), [9, 0, 1, 3, 4, 5, 6, 7, 8, 9])
        self.assertEqual(most(CIRCLE, *[(2, 4, 6)] * 10), [10] + list(range(10)))
        self.assertEqual(most(CIRCLE, *[(1, 1), (2, 5)] * 5), [10] + list(range(10)))

    def test_fractions(self):
        places = [(1, 0), (3, 4, 5), (1, 1), (5, 12, 13), (-8, 15, 17), (0, -1), (1, 1, 2)]
        self.assertEqual(most(CIRCLE, *places), [5, 0, 1, 3, 4, 5])

    def test_ten(self):
        circle = [(5, 0), (4, 3), (3, 4), (0, 5), (-3, 4), (-4, 3), (-5, 0), (-4, -3), (-3, -4), (0, -5)]
        self.assertEqual(most(CIRCLE, *circle), [10] + list(range(10)))
        self.assertEqual(most(LINE, *circle), [2, 0, 1])
        self.assertEqual(most(CIRCLE, *[(k, k * k * k * k) if k < 6 else (k, 1000 - 3 * k) for k in range(10)])[0], 4)


class AsSays(unittest.TestCase):
    def found(self, start, kind, count):
        """The first of the largest sets, by what says is answered of each three or four."""
        width = 3 if kind == LINE else 4
        so = {}
        rows = list(combinations(range(count), width))
        for k in range(0, len(rows), 40):
            given = split_answers(answers(flat(start + [("says", kind, list(row)) for row in rows[k:k + 40]])))
            so.update(zip(rows[k:k + 40], given[len(start):]))
        sets = [members for size in range(count + 1) for members in combinations(range(count), size)
                if all(so[part] == [1] for part in combinations(members, width))]
        return list(min(sets, key=lambda members: (-len(members), members)))

    def test_as_says(self):
        source = random.Random(10)
        for turn in range(40):
            far = source.choice((1, 1, 2, 3))
            count = source.choice((3, 4, 5, 6, 7, 8, 9))
            places = [(source.randint(-far, far), source.randint(-far, far), source.choice((1, 1, 1, 2)))
                      for k in range(count)]
            start = placed(*places) + [source.choice((("slant", 2, 1, -1, 3, 0, 1), ("slant", 1, 2, -2, 1, 0, 1)))]
            for kind in (LINE, CIRCLE):
                members = self.found(start, kind, count)
                self.assertEqual(answer_after(*start, ("most", kind)), [len(members)] + members, (kind, places))


class Refused(unittest.TestCase):
    def test_kinds(self):
        for start in ([("begin",)], placed((1, 1)), placed(*[(k, k) for k in range(10)])):
            for kind in list(range(15)) + [2147483647]:
                answer = answer_after(*start, ("most", kind))
                if kind in (LINE, CIRCLE):
                    self.assertEqual(answer, [len(start) - 1] + list(range(len(start) - 1)))
                else:
                    self.assertEqual(answer, [-22], kind)

    def test_not_begun(self):
        for kind in range(14):
            self.assertEqual(answer_after(("most", kind)), [-61])


if __name__ == "__main__":
    unittest.main()
