"""keeps: which slants keep what's said, whatever points there are."""

import random
import unittest

from helper import answer_after, first_numbers, placed
from test_says import CASES, KINDS, POINTS, TIMES, row_of

LEAST = -2147483648
GREATEST = 2147483647

KEPT_BY_ANY = (0, 1, 2, 8, 9, 10)

# Those that turn, stretch, turn over, or do several of these.
LIKE = (
    (1, 0, 0, 1), (0, -1, 1, 0), (3, -4, 4, 3), (-1, 0, 0, -1), (2, 0, 0, 2), (-7, 0, 0, -7), (1, 0, 0, -1),
    (-1, 0, 0, 1), (0, 1, 1, 0), (0, -5, -5, 0), (3, 4, 4, -3), (1, 1, -1, 1), (1, 1, 1, -1), (6, -8, 8, 6),
    (1000, 0, 0, 1000), (-1000, 1000, 1000, 1000), (600, 800, -800, 600), (-1000, 0, 0, 1000), (999, -1000, 1000, 999),
)
# Those that do something else.
OTHER = (
    (2, 0, 0, 1), (1, 0, 0, 2), (1, 1, 0, 1), (1, 0, 1, 1), (1, 2, 3, 4), (0, 1, 2, 0), (1, 1, 1, 2), (2, 1, 1, 2),
    (3, -4, 4, 4), (3, 4, 4, 3), (3, 4, -4, -3), (1, -2, 3, 4), (-2, 0, 0, 1), (2, 0, 0, -1), (1000, 0, 0, 999),
    (1000, -999, 1000, 1000), (1, 0, 0, -1000), (1000, 1000, -1000, 999), (1, 1000, 0, 1), (5, 0, 3, 4), (5, 3, 0, 4),
    (5, 3, 0, -4), (0, 5, 4, 3), (1, 0, 1, -1),
)


def keeps(kind, *four):
    return answer_after(("begin",), ("keeps", kind, *four))


class Told(unittest.TestCase):
    def test_those_that_turn_stretch_and_turn_over(self):
        for kind in KINDS:
            for four in LIKE:
                self.assertEqual(keeps(kind, *four), [1], (kind, four))

    def test_others(self):
        for kind in KINDS:
            for four in OTHER:
                self.assertEqual(keeps(kind, *four), [1 if kind in KEPT_BY_ANY else 0], (kind, four))

    def test_points_do_not_matter(self):
        for start in ([("begin",)], placed((1, 1)), placed(*[(k, k * k) for k in range(10)])):
            for kind in KINDS:
                self.assertEqual(answer_after(*start, ("keeps", kind, 2, 0, 0, 2)), [1])
                answer = [1 if kind in KEPT_BY_ANY else 0]
                self.assertEqual(answer_after(*start, ("keeps", kind, 2, 0, 0, 3)), answer)


class AsSays(unittest.TestCase):
    """What's kept is so of all examples, slanted; what isn't is not so of one at least."""

    def examples(self, kind):
        """Places of which it's so; enough that each slant that doesn't keep the kind spoils one."""
        if kind == TIMES:
            rows = [(places, [0, 1, 2, 3, 1, 1]) for places in CASES[4][0]]
            more = [(0, 0), (2, 0), (0, 0), (0, 1)], [(0, 0), (2, 2), (0, 0), (1, -1)]
            return rows + [(places, [0, 1, 2, 3, 2, 1]) for places in more]
        right_angles = ((0, 0), (1, 0), (0, 0), (0, 1)), ((0, 0), (1, 1), (0, 0), (1, -1))
        all_places = list(CASES[kind][0])
        if kind in (3, 4):
            all_places += right_angles
        if kind == 7:
            all_places += [((1, 0), (0, 0), (0, 1), (0, 1), (0, 0), (-1, 0)),
                           ((1, 1), (0, 0), (-1, 1), (-1, 1), (0, 0), (-1, -1))]
        if kind == 12:
            all_places += [((0, 0), (1, 0), (0, 1), (0, 0), (0, 1), (-1, 0)),
                           ((0, 0), (1, 1), (-1, 1), (0, 0), (-1, 1), (-1, -1))]
        return [(places, row_of(kind)) for places in all_places]

    def is_kept(self, kind, four):
        for places, row in self.examples(kind):
            given = first_numbers(*placed(*places), ("slant", *four, 0, 0), ("says", kind, row))
            self.assertEqual(given[-2], 0)
            if given[-1] == 0:
                return 0
        return 1

    def test_as_says(self):
        source = random.Random(11)
        fours = [four for four in LIKE + OTHER if max(map(abs, four)) <= 10]
        while len(fours) < 90:
            most = source.choice((1, 2, 3, 10))
            four = tuple(source.randint(-most, most) for k in range(4))
            if four[0] * four[3] != four[1] * four[2]:
                fours.append(four)
        for kind in KINDS:
            self.assertEqual(len(self.examples(kind)[0][0]), POINTS[kind])
            for four in fours:
                self.assertEqual(keeps(kind, *four), [self.is_kept(kind, four)], (kind, four))


class Refused(unittest.TestCase):
    def test_kinds(self):
        for kind in (13, 14, 100, GREATEST):
            self.assertEqual(keeps(kind, 1, 0, 0, 1), [-22])
        self.assertEqual(keeps(12, 1, 0, 0, 1), [1])

    def test_sizes(self):
        for kind in list(KINDS) + [13]:
            for k in range(4):
                for large in (1000, -1000, 1001, -1001, LEAST, GREATEST):
                    four = [3, 1, 1, 2]
                    four[k] = large
                    answer = keeps(kind, *four)
                    if kind == 13 or abs(large) > 1000:
                        self.assertEqual(answer, [-22], (kind, four))
                    else:
                        self.assertEqual(answer, [1 if kind in KEPT_BY_ANY else 0], (kind, four))
            # Of the right form, but too large.
            self.assertEqual(keeps(kind, 1001, 0, 0, 1001), [-22])
            self.assertEqual(keeps(kind, 0, -1001, 1001, 0), [-22])

    def test_measure(self):
        for kind in KINDS:
            for four in ((0, 0, 0, 0), (1, 2, 2, 4), (1, 1, 1, 1), (1, -1, -1, 1), (1, 0, 0, 0), (0, 0, 5, 5),
                         (1000, 1000, 1000, 1000), (-1000, 500, 2, -1)):
                self.assertEqual(keeps(kind, *four), [-22], (kind, four))

    def test_not_begun(self):
        for kind in range(14):
            self.assertEqual(answer_after(("keeps", kind, 1, 0, 0, 1)), [-61])


if __name__ == "__main__":
    unittest.main()
