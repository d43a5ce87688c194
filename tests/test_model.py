"""The whole program against another one, over fractions, that shares nothing with it."""

import random
import unittest
from fractions import Fraction
from itertools import combinations, permutations
from math import lcm

from helper import flat, places_after, split_answers

from pointsayings.plane import answers

LARGEST = 10 ** 15


def told(*fractions):
    return [number for one in fractions for number in (Fraction(one).numerator, Fraction(one).denominator)]


def told_if_small(*fractions):
    numbers = told(*fractions)
    return -75 if max(map(abs, numbers)) > LARGEST else [0] + numbers


def minus(b, a):
    return (b[0] - a[0], b[1] - a[1])


def square_far(a, b):
    return (a[0] - b[0]) ** 2 + (a[1] - b[1]) ** 2


def slope(a, b):
    """How much up for 1 across; None straight up."""
    return None if a[0] == b[0] else (a[1] - b[1]) / (a[0] - b[0])


def is_on_one_line(places):
    different = sorted(set(places))
    return len(different) < 3 or len({slope(different[0], other) for other in different[1:]}) == 1


def centre_of(a, b, c):
    """Where two of the lines meet that halve the sides; the three aren't on one line."""
    if a[1] == b[1]:
        b, c = c, b
    # From the middle of a and b, at right angles to their way, so far that it's as far from c as from a.
    middle = ((a[0] + b[0]) / 2, (a[1] + b[1]) / 2)
    along = (a[1] - b[1], b[0] - a[0])
    # |middle + t along - a|^2 = |middle + t along - c|^2 is linear in t.
    t = (square_far(middle, c) - square_far(middle, a)) / (2 * (along[0] * (c[0] - a[0]) + along[1] * (c[1] - a[1])))
    return (middle[0] + t * along[0], middle[1] + t * along[1])


def is_on_one(places):
    """Whether some point is as far from all, or all are on one line."""
    different = sorted(set(places))
    if is_on_one_line(different):
        return True
    if is_on_one_line(different[:3]):
        return False
    middle = centre_of(*different[:3])
    return len({square_far(middle, place) for place in different}) == 1


def is_parallel(a, b, c, d):
    return a == b or c == d or slope(a, b) == slope(c, d)


def is_right(a, b, c, d):
    # By Pythagoras: the two ways as sides of a triangle.
    x, y = minus(b, a)
    u, v = minus(d, c)
    return (x - u) ** 2 + (y - v) ** 2 == square_far(a, b) + square_far(c, d)


def is_times(a, b, c, d, m, n):
    return square_far(a, b) == Fraction(m, n) ** 2 * square_far(c, d)


def turned(a, b, c):
    """What turns and stretches the way from b to a into that from b to c, as a pair; None if one is none."""
    if a == b or c == b:
        return None
    x, y = minus(a, b)
    u, v = minus(c, b)
    far = x * x + y * y
    return ((u * x + v * y) / far, (v * x - u * y) / far)


def is_angles(a, b, c, d, e, f):
    first, second = turned(a, b, c), turned(d, e, f)
    return first is None or second is None or slope((0, 0), first) == slope((0, 0), second)


def area(a, b, c):
    return a[0] * (b[1] - c[1]) + b[0] * (c[1] - a[1]) + c[0] * (a[1] - b[1])


def meet(a, b, c, d):
    """Where two lines meet that aren't parallel."""
    part = area(a, c, d) / (area(a, c, d) - area(b, c, d))
    return (a[0] + part * (b[0] - a[0]), a[1] + part * (b[1] - a[1]))


def is_through(a, b, c, d, e, f):
    if a == b or c == d or e == f:
        return True
    if slope(a, b) != slope(c, d):
        return is_on_one_line([meet(a, b, c, d), e, f])
    if slope(a, b) == slope(e, f):
        return True
    return is_on_one_line([a, b, c])


def is_touches(a, b, c, d):
    if a == b:
        return True
    x, y = minus(b, a)
    part = (x * (c[0] - a[0]) + y * (c[1] - a[1])) / (x * x + y * y)
    return square_far((a[0] + part * x, a[1] + part * y), c) == square_far(c, d)


def is_alike(a, b, c, d, e, f):
    if a == b:
        return a == c or d == e
    if d == e:
        return d == f
    if a == c or d == f:
        return a == c and d == f
    return turned(b, a, c) == turned(e, d, f)


SAYINGS = (
    lambda a, b: a == b,
    lambda a, b, c: is_on_one_line([a, b, c]),
    is_parallel,
    is_right,
    lambda a, b, c, d: square_far(a, b) == square_far(c, d),
    is_times,
    lambda a, b, c, d: is_on_one([a, b, c, d]),
    is_angles,
    lambda a, b, c, d, e, f: area(a, b, c) == area(d, e, f),
    is_through,
    lambda a, b, c: (b[0] + c[0], b[1] + c[1]) == (2 * a[0], 2 * a[1]),
    is_touches,
    is_alike,
)


def part_of(a, b, c):
    """The way from a to c as a part of that from b to c, all on one line."""
    x, y = minus(c, a)
    u, v = minus(c, b)
    return x / u if u != 0 else y / v


def cross(a, b, c, d):
    if len({a, b, c, d}) < 4 or not is_on_one_line([a, b, c, d]):
        return -33
    return told_if_small(part_of(a, b, c) / part_of(a, b, d))


def centre(a, b, c):
    if is_on_one_line([a, b, c]):
        return -33
    middle = centre_of(a, b, c)
    return told_if_small(*middle, square_far(middle, b))


class Model:
    """The same calls, over fractions and with nothing shared with the program."""

    def __init__(self):
        self.all_places = None

    def placed(self, x, y, w):
        if max(abs(x), abs(y)) > 1000 or not 1 <= w <= 1000:
            return None
        return (Fraction(x, w), Fraction(y, w))

    def is_too_large(self, place):
        w = lcm(place[0].denominator, place[1].denominator)
        return max(abs(place[0] * w), abs(place[1] * w), w) > 10 ** 9

    def moved(self, rows):
        (a, b, e), (c, d, f), (g, h, i) = rows
        if max(abs(number) for row in rows for number in row) > 10:
            return -22
        if a * d * i + b * f * g + e * c * h - e * d * g - b * c * i - a * f * h == 0:
            return -22
        if any(g * x + h * y + i == 0 for x, y in self.all_places):
            return -33
        new = [((a * x + b * y + e) / (g * x + h * y + i), (c * x + d * y + f) / (g * x + h * y + i))
               for x, y in self.all_places]
        if any(self.is_too_large(place) for place in new):
            return -75
        self.all_places = new
        return 0

    def answer(self, name, *given):
        """All numbers that the call is answered."""
        told = self.number(name, *given)
        return told if isinstance(told, list) else [told]

    def number(self, name, *given):
        if name == "begin":
            self.all_places = []
            return 0
        if self.all_places is None:
            return -61
        if name == "point":
            place = self.placed(*given)
            if place is None:
                return -22
            if len(self.all_places) == 10:
                return -28
            self.all_places.append(place)
            return len(self.all_places) - 1
        if name == "put":
            if given[0] >= len(self.all_places):
                return -2
            place = self.placed(*given[1:])
            if place is None:
                return -22
            self.all_places[given[0]] = place
            return 0
        if name == "out":
            if not self.all_places:
                return -2
            del self.all_places[-1]
            return len(self.all_places)
        if name == "slant":
            a, b, c, d, e, f = given
            return self.moved(((a, b, e), (c, d, f), (0, 0, 1)))
        if name == "bend":
            row = given[0]
            return -22 if len(row) != 9 else self.moved((row[:3], row[3:6], row[6:]))
        if name == "points":
            return len(self.all_places)
        return self.look(name, *given)

    def look(self, name, *given):
        count = len(self.all_places)
        if name == "where":
            return [0] + told(*self.all_places[given[0]]) if given[0] < count else -2
        if name == "says":
            return self.says(*given)
        if name == "all":
            return self.every(given[0])
        if name == "most":
            return self.most(given[0])
        if name == "keeps":
            kind, a, b, c, d = given
            if kind > 12 or max(map(abs, given[1:])) > 1000 or a * d == b * c:
                return -22
            return 1 if kind in (0, 1, 2, 8, 9, 10) or (c, d) in ((-b, a), (b, -a)) else 0
        if max(given) >= count:
            return -2
        places = [self.all_places[p] for p in given]
        return cross(*places) if name == "cross" else centre(*places)

    def says(self, kind, row):
        if kind > 12 or len(row) != (2, 3, 4, 4, 4, 6, 4, 6, 6, 6, 3, 4, 6)[kind]:
            return -22
        ratio = row[4:] if kind == 5 else []
        points = row[:4] if kind == 5 else row
        if any(not 1 <= number <= 1000 for number in ratio):
            return -22
        if max(points) >= len(self.all_places):
            return -2
        return int(SAYINGS[kind](*[self.all_places[p] for p in points], *ratio))

    def rows(self, kind):
        points = range(len(self.all_places))
        if kind in (0, 1, 6):
            return list(combinations(points, {0: 2, 1: 3, 6: 4}[kind]))
        if kind == 10:
            return sorted((a, b, c) for a, b, c in permutations(points, 3) if b < c)
        return [first + second for first, second in combinations(list(combinations(points, 2)), 2)]

    def every(self, kind):
        if kind not in (0, 1, 2, 3, 4, 6, 10):
            return -22
        so = [row for row in self.rows(kind) if self.says(kind, list(row)) == 1]
        return [len(so)] + [p for row in so for p in row]

    def most(self, kind):
        if kind not in (1, 6):
            return -22
        # All on one line, or all on one circle: what's so of each three or four is so of them all.
        fits = is_on_one_line if kind == 1 else is_on_one
        points = range(len(self.all_places))
        for size in reversed(range(len(points) + 1)):
            for members in combinations(points, size):
                if fits([self.all_places[p] for p in members]):
                    return [size, *members]


def some_move(source, name):
    far = source.choice((3, 3, 10, 1000, 1001))
    place = (source.randint(-far, far), source.randint(-far, far),
             source.choice((1, 1, 1, 2, 5, 6, source.randint(0, far))))
    if name == "point":
        return (name, *place)
    if name == "put":
        return (name, source.randint(0, 6), *place)
    most = source.choice((1, 2, 3, 10, 10, 11))
    if name == "slant":
        return (name, *[source.randint(-most, most) for k in range(6)])
    if name == "bend":
        count = source.choice((9,) * 12 + (8, 0, 5))
        return (name, [source.randint(-min(most, 3 + k), min(most, 3 + k)) for k in range(count)])
    return (name,)


def some_look(source, name, points):
    if name == "where":
        return (name, source.randint(0, points))
    if name == "says":
        kind = source.randint(0, 13)
        length = (2, 3, 4, 4, 4, 6, 4, 6, 6, 6, 3, 4, 6, 2)[kind]
        if source.random() < 0.1:
            length = source.randint(0, 6)
        row = [source.randint(0, points - (source.random() < 0.9)) for k in range(length)]
        if kind == 5 and length == 6:
            row[4:] = [source.choice((1, 1, 2, 2, 3, 1000, 0, 1001)) for k in range(2)]
        return (name, kind, row)
    if name in ("all", "most"):
        return (name, source.choice((1, 6, 1, 6, source.randint(0, 13))))
    if name == "keeps":
        most = source.choice((1, 2, 5, 1001))
        a, b, c, d = [source.randint(-most, most) for k in range(4)]
        if source.random() < 0.4:
            c, d = source.choice(((-b, a), (b, -a)))
        return (name, source.randint(0, 13), a, b, c, d)
    return (name, *[source.randint(0, points - (source.random() < 0.9)) for k in range(4 if name == "cross" else 3)])


MOVES = ("begin", "point", "point", "point", "put", "out", "slant", "slant", "bend", "bend", "points")
LOOKS = ("where", "says", "says", "says", "all", "most", "keeps", "cross", "centre")


def some_call(source, looking):
    if source.random() < looking:
        return some_look(source, source.choice(LOOKS), source.randint(1, 8))
    name = source.choice(MOVES)
    if name == "begin" and source.random() < 0.8:
        name = "point"
    return some_move(source, name)


class AsTheModel(unittest.TestCase):
    def compare(self, calls):
        model = Model()
        expected = [model.answer(*one) for one in calls]
        self.assertEqual(split_answers(answers(flat(calls))), expected, calls)
        self.assertEqual(places_after(*calls), model.all_places or [], calls)
        return expected

    def test_many_lists(self):
        source = random.Random(20261118)
        seen = {}
        for k in range(300):
            looking = source.choice((0, 0, 0.3, 0.6))
            calls = ([] if k % 7 == 0 else [("begin",)]) + [some_call(source, looking) for number in range(40)]
            for one, answer in zip(calls, self.compare(calls)):
                seen[(one[0], min(answer[0], 0))] = True
        for name, refusals in (
                ("point", (-61, -28, -22, 0)), ("put", (-61, -22, -2, 0)), ("out", (-61, -2, 0)),
                ("slant", (-75, -61, -22, 0)), ("bend", (-75, -61, -33, -22, 0)), ("where", (-61, -2, 0)),
                ("says", (-61, -22, -2, 0)), ("all", (-61, -22, 0)), ("most", (-61, -22, 0)),
                ("keeps", (-61, -22, 0)), ("cross", (-61, -33, -2)), ("centre", (-61, -33, -2, 0))):
            for refusal in refusals:
                self.assertIn((name, refusal), seen)

    def some_places(self, source):
        """Ten places, often several at one, on one line, or on one circle."""
        form = source.choice(("any", "line", "circle", "up"))
        circle = [(5, 0), (4, 3), (3, 4), (0, 5), (-3, 4), (-4, 3), (-5, 0), (-4, -3), (-3, -4), (0, -5), (3, -4)]
        places = []
        for k in range(source.choice((3, 5, 7, 10))):
            x, y = source.randint(-2, 2), source.randint(-2, 2)
            if source.random() < 0.75 and form != "any":
                x, y = {"line": (x, 2 * x - 1), "circle": source.choice(circle), "up": (1, 3 * y)}[form]
            places.append((x, y, source.choice((1, 1, 1, 1, 1, 2))))
        return places

    def test_many_looks(self):
        source = random.Random(20261119)
        so = {}
        for k in range(70):
            places = self.some_places(source)
            calls = [("begin",)] + [("point", *place) for place in places]
            for number in range(source.choice((0, 0, 1, 2))):
                calls.append(some_move(source, source.choice(("slant", "bend"))))
            while len(calls) < 60:
                calls.append(some_look(source, source.choice(LOOKS + ("says",) * 5), len(places)))
            for one, answer in zip(calls, self.compare(calls)):
                key = one[:2] if one[0] in ("says", "keeps") else one[:1]
                so.setdefault(key, set()).add(answer[0])
        for kind in range(13):
            self.assertEqual(so[("says", kind)], {-22, -2, 0, 1})
            self.assertIn(1, so[("keeps", kind)])
        self.assertEqual(so[("says", 13)], {-22})
        self.assertTrue({0, -2, -33} <= so[("cross",)])
        self.assertTrue({0, -2, -33} <= so[("centre",)])

    def test_large_numbers(self):
        source = random.Random(20261120)
        seen = set()
        for k in range(60):
            far = source.choice((30, 1000))
            line = source.random() < 0.6
            calls = [("begin",)]
            while len(calls) < 40:
                x = source.randint(-far, far)
                y = 0 if line else source.randint(-far, far)
                calls.append(("point", x, y, source.randint(1, source.choice((1, far)))))
                calls.append(("slant", 10, 0, 0, 10, source.randint(-9, 9), 0) if source.random() < 0.5
                             else ("bend", [1, 0, source.randint(-9, 9), 0, 1, 0, 0, 0, source.choice((7, 9, 10))]))
                if source.random() < 0.3:
                    calls.append(("out",))
                row = source.sample(range(4), 4)
                calls += [("cross", *row), ("centre", *row[:3])]
            for one, answer in zip(calls, self.compare(calls[:60])):
                seen.add((one[0], min(answer[0], 0)))
        for name in ("cross", "centre"):
            for answer in (-75, -33, -2, 0):
                self.assertIn((name, answer), seen)


if __name__ == "__main__":
    unittest.main()
