"""The interface: how calls are told, how answers are told, and that nothing is changed or kept."""

import random
import unittest
from fractions import Fraction
from math import lcm

from helper import SAME_NINE, SAME_SLANT, flat, places_after, split_answers

from pointsayings.plane import answers

LEAST = -2147483648
GREATEST = 2147483647

STORY = [
    ("points",), ("begin",), ("point", 1, 2, 3), ("point", -4, 5, 6), ("point", 0, 0, 0), ("slant", 2, 1, 1, 1, 0, -3),
    ("bend", [1, 0, 0, 0, 1, 0, 1, 2, 3]), ("bend", []), ("put", 1, 7, 8, 9), ("put", 2, 7, 8, 9), ("points",),
    ("out",), ("out",), ("out",), ("points",), ("begin",), ("points",),
]
STORY_ANSWERS = [
    1, -61, 1, 0, 1, 0, 1, 1, 1, -22, 1, 0, 1, 0, 1, -22, 1, 0, 1, -2, 1, 2, 1, 1, 1, 0, 1, -2, 1, 0, 1, 0, 1, 0,
]


def refuse(*given, **named):
    raise AssertionError("what is handed in was changed")


class Untouchable(list):
    append = clear = extend = insert = pop = remove = reverse = sort = refuse
    __setitem__ = __delitem__ = __iadd__ = __imul__ = refuse


class Told(unittest.TestCase):
    def test_count_ahead_of_each_answer(self):
        self.assertEqual(answers([0]), [1, 0])
        self.assertEqual(answers([6]), [1, -61])
        self.assertEqual(answers([0, 1, 5, 5, 1, 6, 3, 3]), [1, 0, 1, 0, 1, 1, 1, 0, 1, -2])
        self.assertEqual(answers(flat(STORY)), STORY_ANSWERS)

    def test_numbers_as_they_are_told(self):
        calls = [0, 1, 3, -4, 5, 2, 0, 3, -4, 5, 4, 1, 0, 0, 1, 0, 0, 5, 9, 1, 0, 0, 0, 1, 0, 0, 0, 1, 5, 0, 6, 3]
        self.assertEqual(answers(calls), [1, 0, 1, 0, 1, 0, 1, 0, 1, 0, 1, -22, 1, 1, 1, 0])

    def test_calls_of_all_lengths_ahead_of_begin(self):
        calls = [
            1, LEAST, GREATEST, GREATEST, 2, GREATEST, LEAST, LEAST, 0, 3, 4, LEAST, GREATEST, LEAST, GREATEST, LEAST,
            GREATEST, 5, 9, LEAST, LEAST, LEAST, LEAST, LEAST, GREATEST, GREATEST, GREATEST, GREATEST, 5, 0, 5, 3, 1,
            2, 3, 6, 7, GREATEST, 8, GREATEST, 6, 0, GREATEST, 0, 0, 0, 0, 8, 0, 0, 8, 5, 2, 0, 0, 9, GREATEST, 10, 0,
            11, GREATEST, LEAST, LEAST, GREATEST, GREATEST, 12, 0, 0, 0, GREATEST, 13, 0, 0, 0, 0, 6,
        ]
        self.assertEqual(answers(calls), [1, -61] * 17 + [1, 0, 1, 0])

    def test_ends_of_the_ranges(self):
        for end in (LEAST, GREATEST):
            for k in range(6):
                six = list(SAME_SLANT)
                six[k] = end
                self.assertEqual(answers(flat([("begin",), ("slant", *six)])), [1, 0, 1, -22])
            for k in range(9):
                nine = list(SAME_NINE)
                nine[k] = end
                self.assertEqual(answers(flat([("begin",), ("bend", nine)])), [1, 0, 1, -22])
            start = [("begin",), ("point", 0, 0, 1)]
            self.assertEqual(answers(flat(start + [("point", end, 0, 1), ("point", 0, end, 1)]))[4:], [1, -22] * 2)
            self.assertEqual(answers(flat(start + [("put", 0, end, 0, 1), ("put", 0, 0, end, 1)]))[4:], [1, -22] * 2)
        calls = start + [("point", 0, 0, GREATEST), ("point", 0, 0, 0), ("put", 0, 0, 0, GREATEST),
                         ("put", GREATEST, 0, 0, 1), ("put", GREATEST, LEAST, LEAST, GREATEST), ("points",)]
        self.assertEqual(answers(flat(calls))[4:], [1, -22, 1, -22, 1, -22, 1, -2, 1, -2, 1, 1])

    def test_sixty_calls(self):
        self.assertEqual(answers([0] + [6] * 59), [1, 0] * 60)
        bends = flat([("begin",)] + [("bend", list(SAME_NINE))] * 59)
        self.assertLessEqual(len(bends), 700)
        self.assertEqual(answers(bends), [1, 0] * 60)

    def test_kinds_of_what_is_given_back(self):
        given = answers(flat(STORY))
        self.assertIs(type(given), list)
        for number in given:
            self.assertIs(type(number), int)


class Kept(unittest.TestCase):
    def test_what_is_handed_in_is_not_changed(self):
        calls = Untouchable(flat(STORY))
        self.assertEqual(answers(calls), STORY_ANSWERS)
        self.assertEqual(list(calls), flat(STORY))

    def test_a_second_time(self):
        calls = flat(STORY)
        first = answers(calls)
        self.assertEqual(answers(calls), first)
        answers([0, 1, 1, 1, 1])
        self.assertEqual(answers([6]), [1, -61])
        self.assertEqual(answers([0, 6]), [1, 0, 1, 0])
        self.assertEqual(answers(calls), STORY_ANSWERS)

    def test_what_is_given_back_is_the_callers_own(self):
        given = answers([0, 6])
        given.clear()
        self.assertEqual(answers([0, 6]), [1, 0, 1, 0])


class Model:
    """The same calls, over fractions and with nothing shared with the program."""

    def __init__(self):
        self.all_places = None

    def placed(self, x, y, w):
        if max(abs(x), abs(y)) > 1000 or not 1 <= w <= 1000:
            return None
        return (Fraction(x, w), Fraction(y, w))

    def is_too_large(self, place):
        w = lcm(place[0].denominator, place[1].denominator)
        return max(abs(place[0] * w), abs(place[1] * w), w) > 10 ** 9

    def moved(self, rows):
        (a, b, e), (c, d, f), (g, h, i) = rows
        if max(abs(number) for row in rows for number in row) > 10:
            return -22
        if a * d * i + b * f * g + e * c * h - e * d * g - b * c * i - a * f * h == 0:
            return -22
        if any(g * x + h * y + i == 0 for x, y in self.all_places):
            return -33
        new = [((a * x + b * y + e) / (g * x + h * y + i), (c * x + d * y + f) / (g * x + h * y + i))
               for x, y in self.all_places]
        if any(self.is_too_large(place) for place in new):
            return -75
        self.all_places = new
        return 0

    def answer(self, name, *given):
        if name == "begin":
            self.all_places = []
            return 0
        if self.all_places is None:
            return -61
        if name == "point":
            place = self.placed(*given)
            if place is None:
                return -22
            if len(self.all_places) == 10:
                return -28
            self.all_places.append(place)
            return len(self.all_places) - 1
        if name == "put":
            if given[0] >= len(self.all_places):
                return -2
            place = self.placed(*given[1:])
            if place is None:
                return -22
            self.all_places[given[0]] = place
            return 0
        if name == "out":
            if not self.all_places:
                return -2
            del self.all_places[-1]
            return len(self.all_places)
        if name == "slant":
            a, b, c, d, e, f = given
            return self.moved(((a, b, e), (c, d, f), (0, 0, 1)))
        if name == "bend":
            row = given[0]
            return -22 if len(row) != 9 else self.moved((row[:3], row[3:6], row[6:]))
        return len(self.all_places)


def some_call(source):
    name = source.choice(("begin", "point", "point", "point", "put", "out", "slant", "slant", "bend", "bend", "points"))
    if name == "begin" and source.random() < 0.8:
        name = "point"
    far = source.choice((3, 10, 1000, 1001))
    place = (source.randint(-far, far), source.randint(-far, far), source.choice((1, 1, 2, 5, 6, source.randint(0, far))))
    if name == "point":
        return (name, *place)
    if name == "put":
        return (name, source.randint(0, 6), *place)
    most = source.choice((1, 2, 3, 10, 10, 11))
    if name == "slant":
        return (name, *[source.randint(-most, most) for k in range(6)])
    if name == "bend":
        count = source.choice((9,) * 12 + (8, 0, 5))
        return (name, [source.randint(-min(most, 3 + k), min(most, 3 + k)) for k in range(count)])
    return (name,)


class AsTheModel(unittest.TestCase):
    def test_many_lists(self):
        source = random.Random(20261118)
        seen = {}
        for k in range(400):
            calls = ([] if k % 7 == 0 else [("begin",)]) + [some_call(source) for number in range(40)]
            model = Model()
            expected = [[model.answer(*one)] for one in calls]
            self.assertEqual(split_answers(answers(flat(calls))), expected, calls)
            self.assertEqual(places_after(*calls), model.all_places or [], calls)
            for one, answer in zip(calls, expected):
                seen[(one[0], min(answer[0], 0))] = True
        for name, refusals in (("point", (-61, -28, -22, 0)), ("put", (-61, -22, -2, 0)), ("out", (-61, -2, 0)),
                               ("slant", (-75, -61, -22, 0)), ("bend", (-75, -61, -33, -22, 0))):
            for refusal in refusals:
                self.assertIn((name, refusal), seen)


if __name__ == "__main__":
    unittest.main()
