"""The interface: how calls are told, how answers are told, and that nothing is changed or kept."""

import unittest

from helper import SAME_NINE, SAME_SLANT, answer_after, flat, placed, split_answers

from pointsayings.plane import answers

LEAST = -2147483648
GREATEST = 2147483647

STORY = [
    ("points",), ("begin",), ("point", 1, 2, 3), ("point", -4, 5, 6), ("point", 0, 0, 0), ("slant", 2, 1, 1, 1, 0, -3),
    ("bend", [1, 0, 0, 0, 1, 0, 1, 2, 3]), ("bend", []), ("put", 1, 7, 8, 9), ("put", 2, 7, 8, 9), ("points",),
    ("out",), ("out",), ("out",), ("points",), ("begin",), ("points",),
]
STORY_ANSWERS = [
    1, -61, 1, 0, 1, 0, 1, 1, 1, -22, 1, 0, 1, 0, 1, -22, 1, 0, 1, -2, 1, 2, 1, 1, 1, 0, 1, -2, 1, 0, 1, 0, 1, 0,
]

LOOKS = placed((0, 0), (2, 0), (0, 2), (2, 2), (1, 0), (4, 0)) + [
    ("where", 4), ("says", 10, [4, 0, 1]), ("says", 0, [0, 1]), ("says", 5, [0, 1, 0, 4, 2, 1]), ("all", 10),
    ("all", 0), ("most", 1), ("most", 6), ("keeps", 6, 3, -4, 4, 3), ("keeps", 3, 2, 0, 0, 1), ("cross", 0, 4, 1, 5),
    ("centre", 0, 1, 2), ("where", 6), ("says", 13, []), ("says", 0, [0, 6]), ("all", 5), ("most", 0),
    ("keeps", 13, 1, 0, 0, 1), ("cross", 0, 1, 2, 3), ("cross", 0, 1, 4, 6), ("centre", 0, 1, 4), ("centre", 6, 0, 1),
]
LOOKS_ANSWERS = [
    1, 0, 1, 0, 1, 1, 1, 2, 1, 3, 1, 4, 1, 5,
    5, 0, 1, 1, 0, 1, 1, 1, 1, 0, 1, 1, 7, 2, 1, 0, 5, 4, 0, 1,
    1, 0, 5, 4, 0, 1, 4, 5, 5, 4, 0, 1, 2, 3, 1, 1, 1, 0, 3, 0, 3, 2,
    7, 0, 1, 1, 1, 1, 2, 1, 1, -2, 1, -22, 1, -2, 1, -22, 1, -22,
    1, -22, 1, -33, 1, -2, 1, -33, 1, -2,
]

STORIES = ((STORY, STORY_ANSWERS), (LOOKS, LOOKS_ANSWERS))


def refuse(*given, **named):
    raise AssertionError("what is handed in was changed")


class Untouchable(list):
    append = clear = extend = insert = pop = remove = reverse = sort = refuse
    __setitem__ = __delitem__ = __iadd__ = __imul__ = refuse


class Told(unittest.TestCase):
    def test_count_ahead_of_each_answer(self):
        self.assertEqual(answers([0]), [1, 0])
        self.assertEqual(answers([6]), [1, -61])
        self.assertEqual(answers([0, 1, 5, 5, 1, 6, 3, 3]), [1, 0, 1, 0, 1, 1, 1, 0, 1, -2])
        for calls, given in STORIES:
            self.assertEqual(answers(flat(calls)), given)

    def test_numbers_as_they_are_told(self):
        calls = [0, 1, 3, -4, 5, 2, 0, 3, -4, 5, 4, 1, 0, 0, 1, 0, 0, 5, 9, 1, 0, 0, 0, 1, 0, 0, 0, 1, 5, 0, 6, 3]
        self.assertEqual(answers(calls), [1, 0, 1, 0, 1, 0, 1, 0, 1, 0, 1, -22, 1, 1, 1, 0])

    def test_calls_of_all_lengths_ahead_of_begin(self):
        calls = [
            1, LEAST, GREATEST, GREATEST, 2, GREATEST, LEAST, LEAST, 0, 3, 4, LEAST, GREATEST, LEAST, GREATEST, LEAST,
            GREATEST, 5, 9, LEAST, LEAST, LEAST, LEAST, LEAST, GREATEST, GREATEST, GREATEST, GREATEST, 5, 0, 5, 3, 1,
            2, 3, 6, 7, GREATEST, 8, GREATEST, 6, 0, GREATEST, 0, 0, 0, 0, 8, 0, 0, 8, 5, 2, 0, 0, 9, GREATEST, 10, 0,
            11, GREATEST, LEAST, LEAST, GREATEST, GREATEST, 12, 0, 0, 0, GREATEST, 13, 0, 0, 0, 0, 6,
        ]
        self.assertEqual(answers(calls), [1, -61] * 17 + [1, 0, 1, 0])

    def test_ends_of_the_ranges(self):
        for end in (LEAST, GREATEST):
            for k in range(6):
                six = list(SAME_SLANT)
                six[k] = end
                self.assertEqual(answers(flat([("begin",), ("slant", *six)])), [1, 0, 1, -22])
            for k in range(9):
                nine = list(SAME_NINE)
                nine[k] = end
                self.assertEqual(answers(flat([("begin",), ("bend", nine)])), [1, 0, 1, -22])
            start = [("begin",), ("point", 0, 0, 1)]
            self.assertEqual(answers(flat(start + [("point", end, 0, 1), ("point", 0, end, 1)]))[4:], [1, -22] * 2)
            self.assertEqual(answers(flat(start + [("put", 0, end, 0, 1), ("put", 0, 0, end, 1)]))[4:], [1, -22] * 2)
        calls = start + [("point", 0, 0, GREATEST), ("point", 0, 0, 0), ("put", 0, 0, 0, GREATEST),
                         ("put", GREATEST, 0, 0, 1), ("put", GREATEST, LEAST, LEAST, GREATEST), ("points",)]
        self.assertEqual(answers(flat(calls))[4:], [1, -22, 1, -22, 1, -22, 1, -2, 1, -2, 1, 1])

    def test_sixty_calls(self):
        self.assertEqual(answers([0] + [6] * 59), [1, 0] * 60)
        bends = flat([("begin",)] + [("bend", list(SAME_NINE))] * 59)
        self.assertLessEqual(len(bends), 700)
        self.assertEqual(answers(bends), [1, 0] * 60)

    def test_sixty_calls_with_the_longest_answers(self):
        start = placed(*[(-7, 5, 9)] * 10)
        looks = [("all", kind) for kind in (2, 3, 4, 6, 10, 1, 0)] + [("most", 6), ("most", 1)]
        looks += [("where", 9), ("centre", 0, 1, 2), ("cross", 0, 1, 2, 3), ("says", 9, [0, 1, 2, 3, 4, 5])]
        lengths = [3961, 3961, 3961, 841, 1081, 361, 91, 11, 11, 5, 1, 1, 1]
        calls = start + (looks * 4)[:49]
        self.assertEqual(len(calls), 60)
        given = split_answers(answers(flat(calls)))
        self.assertEqual([len(answer) for answer in given[11:]], (lengths * 4)[:49])
        for k in range(11, 60 - len(looks)):
            self.assertEqual(given[k], given[k + len(looks)])
        calls = start + [("all", 2)] * 49
        given = answers(flat(calls))
        self.assertEqual(len(given), 22 + 49 * 3962)
        self.assertEqual(given[22:28], [3961, 990, 0, 1, 0, 2])
        self.assertEqual(given[-4:], [7, 9, 8, 9])

    def test_sixty_calls_with_large_numbers_below(self):
        below = (997, 991, 983, 977, 971, 967, 953, 947, 941, 937)
        start = placed(*[(k, 3 - k * k, w) for k, w in enumerate(below)]) + [("bend", [7, 0, 1, 0, 7, 1, 0, 0, 10])] * 5
        calls = start + [("most", 6), ("all", 6), ("all", 2), ("most", 1)] * 11
        self.assertEqual(len(calls), 60)
        given = split_answers(answers(flat(calls)))
        self.assertEqual(given[11:16], [[0]] * 5)
        self.assertEqual(given[16:20], [[3, 0, 1, 2], [0], [0], [2, 0, 1]])
        self.assertEqual(given[16:], given[16:20] * 11)

    def test_ends_of_the_ranges_of_looks(self):
        start = placed(*[(k, k * k) for k in range(10)])
        calls = [("where", GREATEST), ("all", GREATEST), ("most", GREATEST), ("says", GREATEST, []),
                 ("says", GREATEST, [GREATEST] * 6), ("says", 0, [GREATEST, 0]), ("says", 0, [0, GREATEST]),
                 ("says", 5, [GREATEST] * 6), ("says", 5, [0, 0, 0, 0, GREATEST, 1]), ("says", 7, [GREATEST] * 6)]
        answered = [-2, -22, -22, -22, -22, -2, -2, -22, -22, -2]
        calls += [("keeps", GREATEST, LEAST, LEAST, GREATEST, GREATEST), ("keeps", 0, LEAST, 0, 0, LEAST),
                  ("keeps", 0, 0, GREATEST, GREATEST, 0), ("keeps", GREATEST, 1, 0, 0, 1), ("keeps", 0, 0, 0, 0, 0)]
        answered += [-22] * 5
        calls += [("cross", GREATEST, 0, 1, 2), ("cross", 0, GREATEST, 1, 2), ("cross", 0, 1, GREATEST, 2),
                  ("cross", 0, 1, 2, GREATEST), ("cross", 0, 0, 0, 0), ("centre", GREATEST, 0, 1),
                  ("centre", 0, GREATEST, 1), ("centre", 0, 1, GREATEST), ("centre", 0, 0, 0)]
        answered += [-2, -2, -2, -2, -33, -2, -2, -2, -33]
        given = split_answers(answers(flat(start + calls)))
        self.assertEqual(given[len(start):], [[number] for number in answered])
        self.assertEqual(answer_after(*start, ("where", 0)), [0, 0, 1, 0, 1])
        self.assertEqual(answer_after(*start, ("says", 0, [0, 0])), [1])
        self.assertEqual(answer_after(*start, ("all", 0)), [0])

    def test_kinds_of_what_is_given_back(self):
        for calls, expected in STORIES:
            given = answers(flat(calls))
            self.assertIs(type(given), list)
            self.assertEqual(len(given), len(expected))
            for number in given:
                self.assertIs(type(number), int)


class Kept(unittest.TestCase):
    def test_what_is_handed_in_is_not_changed(self):
        for story, given in STORIES:
            calls = Untouchable(flat(story))
            self.assertEqual(answers(calls), given)
            self.assertEqual(list(calls), flat(story))

    def test_a_second_time(self):
        for story, given in STORIES:
            calls = flat(story)
            self.assertEqual(answers(calls), given)
            self.assertEqual(answers(calls), given)
            answers([0, 1, 1, 1, 1])
            self.assertEqual(answers([6]), [1, -61])
            self.assertEqual(answers([9, 0]), [1, -61])
            self.assertEqual(answers([0, 6]), [1, 0, 1, 0])
            self.assertEqual(answers([0, 10, 6]), [1, 0, 1, 0])
            self.assertEqual(answers(calls), given)

    def test_what_is_given_back_is_the_callers_own(self):
        given = answers([0, 6])
        given.clear()
        self.assertEqual(answers([0, 6]), [1, 0, 1, 0])
        given = answers(flat(LOOKS))
        for k in range(len(given)):
            given[k] = 77
        self.assertEqual(answers(flat(LOOKS)), LOOKS_ANSWERS)


if __name__ == "__main__":
    unittest.main()
