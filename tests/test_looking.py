"""Looking, and what's refused, changes nothing."""

import unittest

from helper import answers, flat, placed, split_answers, triples_after

GREATEST = 2147483647

PLACES = ((0, 0), (2, 0), (4, 0), (5, 0), (1, 2, 3), (-7, 5, 9), (2, 2), (0, 2), (0, 0), (-3, -4, 5))

LOOKS = [("points",), ("where", 0), ("where", 9), ("where", 10)]
LOOKS += [("says", kind, list(range(count))) for kind, count in enumerate((2, 3, 4, 4, 4, 6, 4, 6, 6, 6, 3, 4, 6))]
LOOKS += [("says", 5, [0, 1, 2, 3, 1, 1000]), ("says", 13, []), ("says", 1, [0, 1]), ("says", 1, [0, 1, 10])]
LOOKS += [("all", kind) for kind in range(14)] + [("most", kind) for kind in range(14)]
LOOKS += [("keeps", kind, *four) for kind in range(14) for four in ((3, -4, 4, 3), (1, 2, 3, 4), (1, 1, 1, 1))]
LOOKS += [("keeps", 0, 1001, 0, 0, 1)]
LOOKS += [("cross", 0, 1, 2, 3), ("cross", 3, 2, 1, 8), ("cross", 0, 8, 1, 2), ("cross", 0, 1, 2, 4), ("cross", 0, 1, 2, 10)]
LOOKS += [("centre", 0, 1, 7), ("centre", 5, 4, 9), ("centre", 0, 1, 2), ("centre", 0, 8, 4), ("centre", 10, 0, 1)]
REFUSED = [("point", 1, 1, 1), ("point", 1001, 0, 1), ("put", 10, 0, 0, 1), ("put", 0, 0, 0, 0), ("slant", 1, 1, 1, 1, 0, 0),
           ("slant", 11, 0, 0, 1, 0, 0), ("bend", []), ("bend", [1, 0, 0, 0, 1, 0, 1, 0, -2])]


class Nothing(unittest.TestCase):
    def check(self, start, call):
        where = [("where", p) for p in range(10)]
        given = split_answers(answers(flat(start + where + [call] + where + [("points",)])))[len(start):]
        self.assertEqual(given[:10], given[11:21], call)
        self.assertEqual(given[21], [10])
        for answer in given[:10]:
            self.assertEqual((len(answer), answer[0]), (5, 0))
        self.assertEqual(triples_after(*start, call), triples_after(*start), call)
        return given[10]

    def test_looking(self):
        start = placed(*PLACES)
        for moves in ([], [("slant", 2, 1, -1, 3, 5, -7)], [("bend", [1, 0, 0, 0, 1, 0, 1, 2, 10])]):
            for call in LOOKS:
                self.check(start + moves, call)

    def test_a_second_look(self):
        start = placed(*PLACES)
        for k in range(0, len(LOOKS), 24):
            some = LOOKS[k:k + 24]
            given = split_answers(answers(flat(start + some + some)))[len(start):]
            self.assertEqual(given[:len(some)], given[len(some):])
            for call, answer in zip(some, given):
                self.assertEqual(split_answers(answers(flat(start + [call])))[-1], answer, call)

    def test_refused(self):
        for call in REFUSED:
            self.assertLess(self.check(placed(*PLACES), call)[0], 0, call)

    def test_looking_begins_nothing(self):
        for call in LOOKS + REFUSED:
            self.assertEqual(split_answers(answers(flat([call, ("points",), ("begin",), call]))[:4]), [[-61], [-61]])


if __name__ == "__main__":
    unittest.main()
