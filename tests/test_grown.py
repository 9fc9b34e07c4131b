"""least, short and near where the numbers of the form have grown far beyond those that were handed in."""

import unittest
from itertools import product

from helper import ACROSS, FILL, FORM, LEAST, SIZE, ask, ask_last, flat, join, length, meet, members_within, near
from helper import nearest, new, row, rows_of, samples, short, told_of

POINTS = [[40, -40, 40], [0, 0, 1], [-17, 33, 2]]


def turned(a, b, c, d):
    """Three vectors at right angles to one another, each of the length (aa + bb + cc + dd) squared."""
    return [
        [a * a + b * b - c * c - d * d, 2 * (b * c - a * d), 2 * (b * d + a * c)],
        [2 * (b * c + a * d), a * a - b * b + c * c - d * d, 2 * (c * d - a * b)],
        [2 * (b * d - a * c), 2 * (c * d + a * b), a * a - b * b - c * c + d * d],
    ]


def minus(vector, other):
    return [x - y for x, y in zip(vector, other)]


class WithinTheInterface(unittest.TestCase):
    """Grown by meet, across and fill alone, and compared with a search up to the told lengths."""

    def check(self, grown, *calls):
        told = ask(*calls, FORM, LEAST, short(60), *[near(point) for point in POINTS])[len(calls):]
        rows = rows_of(told[0], 3)
        self.assertGreater(max(abs(x) for line in rows for x in line), grown, calls)
        found = members_within(rows, [0, 0, 0], told[1][1])
        self.assertEqual(min(length(v) for v in found if any(v)), told[1][1], calls)
        self.assertEqual(rows_of(told[2], 3), told_of(members_within(rows, [0, 0, 0], 60)), calls)
        for point, answer in zip(POINTS, told[3:]):
            self.assertLessEqual(answer[1], length(point), calls)
            found = members_within(rows, point, answer[1])
            least = min(length(minus(v, point)) for v in found)
            expected = sorted(v for v in found if length(minus(v, point)) == least)
            self.assertEqual(answer, nearest(least, expected), calls)

    def test_meet_of_rank_3(self):
        self.check(100, new(3, turned(2, 1, 1, 1)), meet(turned(1, 2, 0, 2)))
        self.check(900000, new(3, [[9, 8, 0], [0, 9, 8], [7, 0, 9]]), meet([[9, -7, 1], [2, 9, 5], [-3, 1, 8]]))
        for first, second in zip(samples(3, 3, 9, 8, start=2), samples(3, 3, 9, 8, start=8)):
            self.check(60, new(3, first), meet(second))

    def test_across_the_line_that_two_planes_share(self):
        for first, second in zip(samples(3, 2, 9, 8, start=5), samples(3, 2, 9, 8, start=6)):
            self.check(50, new(3, first), meet(second), ACROSS)

    def test_filled_lines(self):
        for first, second in zip(samples(3, 2, 9, 8, start=5), samples(3, 2, 9, 8, start=6)):
            self.check(50, new(3, first), meet(second), FILL)
            self.check(50, new(3, first), meet(second), FILL, ACROSS)

    def test_planes_in_large_numbers(self):
        for first, second in zip(samples(3, 2, 9, 8, start=5), samples(3, 3, 9, 8, start=6)):
            self.check(50, new(3, first), meet(second))

    def test_joined_behind_it(self):
        for first, second in zip(samples(3, 2, 9, 6, start=5), samples(3, 2, 9, 6, start=6)):
            self.check(50, new(3, first), meet(second), ACROSS, join([[9, 9, -9]]))

    def test_a_line_by_hand(self):
        self.assertEqual(
            ask(new(3, [[9, 8, 0], [0, 7, 9]]), meet([[8, 0, 9], [9, 7, 0]]), FORM, LEAST, SIZE, short(60),
                near([40, 40, 40])),
            [[0, 2], [0, 1], row([1071, 889, -81]), [0, 1943923], [0, 1943923], row([]), nearest(4800, [[0, 0, 0]])],
        )


class KnownAnswers(unittest.TestCase):
    """Lattices whose shortest and nearest vectors are known however large they are: made of vectors at right angles."""

    def test_squares(self):
        for a, b in ((3, 2), (1000003, 999983), (2 ** 61 + 1, 2 ** 62 - 57)):
            vectors = [[a, b], [-b, a]]
            side = a * a + b * b
            told = ask(new(2, vectors), LEAST, SIZE, short(side), short(side - 1), near([a, b]))
            self.assertEqual(told[1], [0, side])
            self.assertEqual(told[2], [0, side * side])
            self.assertEqual(rows_of(told[3], 2), told_of([[a, b], [-a, -b], [b, -a], [-b, a]]))
            self.assertEqual(told[4], row([]))
            self.assertEqual(told[5], nearest(0, [[a, b]]))

    def test_four_nearest_in_a_square(self):
        for a, b in ((3, 2), (1000003, 999983), (2 ** 60 + 1, 2 ** 61 - 57)):
            told = ask_last(new(2, [[2 * a, 2 * b], [-2 * b, 2 * a]]), near([a - b, a + b]))
            corners = [[0, 0], [2 * a, 2 * b], [-2 * b, 2 * a], [2 * a - 2 * b, 2 * a + 2 * b]]
            self.assertEqual(told, nearest(2 * (a * a + b * b), sorted(corners)))

    def test_cubes(self):
        for numbers in ((1, 1, 1, 0), (3, 2, 1, 4), (1009, 2003, 3001, 4001), (10 ** 9 + 7, 10 ** 9 + 9, 998244353, 3)):
            vectors = turned(*numbers)
            side = sum(x * x for x in numbers) ** 2
            told = ask(new(3, vectors), LEAST, short(side), short(2 * side - 1), short(side - 1))
            expected = told_of(vectors + [[-x for x in v] for v in vectors])
            self.assertEqual(told[1:], [[0, side], row(flat(expected)), row(flat(expected)), row([])])

    def test_eight_nearest_in_a_cube(self):
        for numbers in ((1, 1, 1, 0), (1009, 2003, 3001, 4001), (10 ** 9 + 7, 10 ** 9 + 9, 998244353, 3)):
            vectors = turned(*numbers)
            side = sum(x * x for x in numbers) ** 2
            point = [sum(v[place] for v in vectors) for place in range(3)]
            corners = [
                [sum(2 * often * v[place] for often, v in zip(times, vectors)) for place in range(3)]
                for times in product((0, 1), repeat=3)
            ]
            told = ask_last(new(3, [[2 * x for x in v] for v in vectors]), near(point))
            self.assertEqual(told, nearest(3 * side, sorted(corners)))

    def test_the_largest_numbers_of_one_place(self):
        most = 9223372036854775807
        self.assertEqual(
            ask(new(1, [[-most - 1]]), LEAST, near([-40]), near([most]), join([[most]]), LEAST),
            [[0, 1], [0, (most + 1) ** 2], nearest(1600, [[0]]), nearest(1, [[most + 1]]), [0, 1], [0, 1]],
        )


if __name__ == "__main__":
    unittest.main()
