"""all: of which points something is so."""

import random
import unittest
from itertools import combinations, permutations

from helper import answer_after, answers, flat, placed, split_answers

SAME, LINE, PARALLEL, RIGHT, EQUAL, CIRCLE, MIDDLE = 0, 1, 2, 3, 4, 6, 10
TAKES = {SAME: 2, LINE: 3, PARALLEL: 4, RIGHT: 4, EQUAL: 4, CIRCLE: 4, MIDDLE: 3}

SQUARE = ((0, 0), (1, 0), (0, 1), (1, 1))


def told(kind, *places):
    """What all tells, with each saying's numbers in a tuple."""
    answer = answer_after(*placed(*places), ("all", kind))
    width = TAKES[kind]
    rows = [tuple(answer[k:k + width]) for k in range(1, len(answer), width)]
    assert len(answer) == 1 + width * answer[0]
    return rows


def to_ask(kind, count):
    """The rows that the document tells, found by another way than the program's."""
    points = range(count)
    if kind in (SAME, LINE, CIRCLE):
        return sorted(combinations(points, TAKES[kind]))
    if kind == MIDDLE:
        return sorted(row for row in permutations(points, 3) if row[1] < row[2])
    rows = [(a, b, c, d) for a in points for b in points for c in points for d in points if a < b and c < d]
    return sorted(row for row in rows if row[0] < row[2] or row[0] == row[2] and row[1] < row[3])


class Told(unittest.TestCase):
    def test_same(self):
        self.assertEqual(told(SAME, (1, 2), (3, 4), (2, 4, 2), (6, 8, 2), (1, 2)), [(0, 2), (0, 4), (1, 3), (2, 4)])
        self.assertEqual(told(SAME, (1, 2), (2, 1)), [])

    def test_line(self):
        self.assertEqual(told(LINE, (0, 0), (1, 1), (0, 1), (2, 2), (0, 5)), [(0, 1, 3), (0, 2, 4)])
        self.assertEqual(told(LINE, (0, 0), (0, 0), (3, 1)), [(0, 1, 2)])
        self.assertEqual(told(LINE, *SQUARE), [])

    def test_parallel(self):
        self.assertEqual(told(PARALLEL, *SQUARE), [(0, 1, 2, 3), (0, 2, 1, 3)])
        self.assertEqual(told(PARALLEL, (0, 0), (1, 1), (2, 2)), [(0, 1, 0, 2), (0, 1, 1, 2), (0, 2, 1, 2)])
        self.assertEqual(told(PARALLEL, (0, 0), (0, 0), (1, 5)), [(0, 1, 0, 2), (0, 1, 1, 2), (0, 2, 1, 2)])
        self.assertEqual(told(PARALLEL, (0, 0), (1, 0), (0, 1)), [])

    def test_right(self):
        expected = [(0, 1, 0, 2), (0, 1, 1, 3), (0, 2, 2, 3), (0, 3, 1, 2), (1, 3, 2, 3)]
        self.assertEqual(told(RIGHT, *SQUARE), expected)
        self.assertEqual(told(RIGHT, (0, 0), (0, 0), (1, 5)), [(0, 1, 0, 2), (0, 1, 1, 2)])
        self.assertEqual(told(RIGHT, (0, 0), (1, 0), (1, 1, 3)), [])

    def test_equal(self):
        expected = [(0, 1, 0, 2), (0, 1, 1, 3), (0, 1, 2, 3), (0, 2, 1, 3), (0, 2, 2, 3), (0, 3, 1, 2), (1, 3, 2, 3)]
        self.assertEqual(told(EQUAL, *SQUARE), expected)
        self.assertEqual(told(EQUAL, (0, 0), (3, 4), (5, 0)), [(0, 1, 0, 2)])
        self.assertEqual(told(EQUAL, (0, 0), (1, 0), (3, 0)), [])

    def test_circle(self):
        self.assertEqual(told(CIRCLE, *SQUARE), [(0, 1, 2, 3)])
        self.assertEqual(told(CIRCLE, (5, 0), (1, 1), (0, 5), (3, 4), (-5, 0)), [(0, 2, 3, 4)])
        self.assertEqual(told(CIRCLE, (0, 0), (1, 1), (2, 2), (0, 1)), [])
        self.assertEqual(told(CIRCLE, (0, 0), (1, 1), (2, 2), (0, 0)), [(0, 1, 2, 3)])

    def test_middle(self):
        self.assertEqual(told(MIDDLE, (2, 2), (0, 0), (1, 1), (3, 3)), [(0, 2, 3), (2, 0, 1)])
        self.assertEqual(told(MIDDLE, (0, 0), (1, 0, 2), (1, 0)), [(1, 0, 2)])
        self.assertEqual(told(MIDDLE, (1, 1), (1, 1), (1, 1)), [(0, 1, 2), (1, 0, 2), (2, 0, 1)])
        self.assertEqual(told(MIDDLE, (1, 1), (1, 1), (2, 2)), [])

    def test_few_points(self):
        for kind in TAKES:
            self.assertEqual(answer_after(("begin",), ("all", kind)), [0], kind)
            self.assertEqual(answer_after(*placed((3, 4)), ("all", kind)), [0], kind)
            self.assertEqual(answer_after(*placed((3, 4), (5, 6)), ("all", kind)), [0], kind)
            answer = [1, 0, 1] if kind == SAME else [0]
            self.assertEqual(answer_after(*placed((3, 4), (3, 4)), ("all", kind)), answer, kind)
        self.assertEqual(answer_after(*placed((3, 4), (3, 4), (3, 4)), ("all", CIRCLE)), [0])

    def test_ten_at_one_place(self):
        counts = {SAME: 45, LINE: 120, PARALLEL: 990, RIGHT: 990, EQUAL: 990, CIRCLE: 210, MIDDLE: 360}
        for kind, count in counts.items():
            rows = told(kind, *[(7, -3, 2)] * 10)
            self.assertEqual(len(rows), count, kind)
            self.assertEqual(rows, to_ask(kind, 10), kind)

    def test_ten_points(self):
        row = [(k, 0) for k in range(10)]
        self.assertEqual(told(LINE, *row), to_ask(LINE, 10))
        self.assertEqual(told(PARALLEL, *row), to_ask(PARALLEL, 10))
        self.assertEqual(told(CIRCLE, *row), to_ask(CIRCLE, 10))
        self.assertEqual(told(MIDDLE, *row), [r for r in to_ask(MIDDLE, 10) if r[1] + r[2] == 2 * r[0]])
        self.assertEqual(told(EQUAL, *row), [r for r in to_ask(EQUAL, 10) if r[1] - r[0] == r[3] - r[2]])
        self.assertEqual(told(RIGHT, *row), [])
        self.assertEqual(told(SAME, *row), [])

    def test_as_says(self):
        source = random.Random(9)
        for turn in range(12):
            far = source.choice((1, 2, 3))
            count = source.choice((3, 4, 5, 6, 7))
            places = [(source.randint(-far, far), source.randint(-far, far), source.choice((1, 1, 2, 3)))
                      for k in range(count)]
            start = placed(*places) + [("bend", [1, 2, 0, -1, 1, 3, 0, 0, 7])]
            for kind in TAKES:
                rows = to_ask(kind, count)
                so = []
                # A list holds 60 calls at most.
                for k in range(0, len(rows), 40):
                    some = rows[k:k + 40]
                    asked = start + [("says", kind, list(row)) for row in some]
                    given = split_answers(answers(flat(asked)))[len(start):]
                    so += [row for row, answer in zip(some, given) if answer == [1]]
                flat_rows = [number for row in so for number in row]
                self.assertEqual(answer_after(*start, ("all", kind)), [len(so)] + flat_rows, (kind, places))


class Refused(unittest.TestCase):
    def test_kinds(self):
        for start in ([("begin",)], placed((1, 1)), placed(*[(k, k) for k in range(10)])):
            for kind in range(15):
                answer = answer_after(*start, ("all", kind))
                if kind in TAKES:
                    self.assertGreaterEqual(answer[0], 0, kind)
                else:
                    self.assertEqual(answer, [-22], kind)
            self.assertEqual(answer_after(*start, ("all", 2147483647)), [-22])

    def test_not_begun(self):
        for kind in range(14):
            self.assertEqual(answer_after(("all", kind)), [-61])


if __name__ == "__main__":
    unittest.main()
