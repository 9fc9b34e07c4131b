"""near: the lattice's vectors that are nearest to a point, all of them, in order (promises 2 and 4)."""

import unittest
from itertools import product

from helper import ACROSS, FILL, FORM, ask, ask_last, form_rows, join, length, meet, members_within, near, nearest, new
from helper import rows_of, samples, sum_of

UNITS = {1: [[1]], 2: [[1, 0], [0, 1]], 3: [[1, 0, 0], [0, 1, 0], [0, 0, 1]]}
EVEN_SUMS = [[1, 1, 0], [1, -1, 0], [0, 1, 1]]


def minus(vector, other):
    return [x - y for x, y in zip(vector, other)]


class Near(unittest.TestCase):
    def check(self, n, vectors, point, least, expected):
        self.assertEqual(ask_last(new(n, vectors), near(point)), nearest(least, expected), (vectors, point))

    def test_wholly_flat_answer(self):
        self.assertEqual(ask_last(new(2, [[2, 0], [0, 2]]), near([1, 4])), [0, 1, 2, 4, 0, 4, 2, 4])

    def test_rank_0(self):
        for n in (1, 2, 3):
            for point in ([0] * n, [-40] * n, [40] * n, [1] + [-2] * (n - 1)):
                self.check(n, [], point, length(point), [[0] * n])
                self.check(n, [[0] * n], point, length(point), [[0] * n])

    def test_one_place(self):
        self.check(1, [[4]], [5], 1, [[4]])
        self.check(1, [[4]], [7], 1, [[8]])
        self.check(1, [[4]], [-5], 1, [[-4]])
        self.check(1, [[9]], [40], 16, [[36]])
        self.check(1, [[9]], [-40], 16, [[-36]])

    def test_two_nearest(self):
        self.check(1, [[4]], [6], 4, [[4], [8]])
        self.check(1, [[4]], [-2], 4, [[-4], [0]])
        self.check(1, [[8]], [-36], 16, [[-40], [-32]])
        self.check(2, [[2, 0], [0, 2]], [1, 0], 1, [[0, 0], [2, 0]])
        self.check(2, [[-1, 3]], [3, 1], 10, [[0, 0]])
        self.check(2, [[-2, 6]], [-1, 3], 10, [[-2, 6], [0, 0]])
        self.check(3, [[2, 4, 6]], [1, 2, 3], 14, [[0, 0, 0], [2, 4, 6]])

    def test_four_nearest(self):
        self.check(2, [[2, 0], [0, 2]], [1, 1], 2, [[0, 0], [0, 2], [2, 0], [2, 2]])
        self.check(2, [[2, 0], [0, 2]], [-39, 39], 2, [[-40, 38], [-40, 40], [-38, 38], [-38, 40]])
        self.check(2, [[1, 1], [1, -1]], [1, 0], 1, [[0, 0], [1, -1], [1, 1], [2, 0]])
        self.check(3, [[2, 0, 0], [0, 2, 0]], [1, -1, 40], 1602, [[0, -2, 0], [0, 0, 0], [2, -2, 0], [2, 0, 0]])

    def test_eight_nearest(self):
        self.check(3, [[2, 0, 0], [0, 2, 0], [0, 0, 2]], [1, 1, 1], 3, [list(v) for v in product((0, 2), repeat=3)])
        self.check(3, [[8, 0, 0], [0, 8, 0], [0, 0, 8]], [-36, 36, -4], 48,
                   [list(v) for v in product((-40, -32), (32, 40), (-8, 0))])

    def test_three_and_six_nearest(self):
        self.check(3, [[1, -1, 0], [0, 1, -1]], [1, 0, 0], 1, [[0, 0, 0], [1, -1, 0], [1, 0, -1]])
        self.check(3, EVEN_SUMS, [1, 0, 0], 1, [[0, 0, 0], [1, -1, 0], [1, 0, -1], [1, 0, 1], [1, 1, 0], [2, 0, 0]])

    def test_lower_rank_than_n(self):
        self.check(2, [[1, 1]], [5, -2], 25, [[1, 1], [2, 2]])
        self.check(2, [[0, 3]], [40, 7], 1601, [[0, 6]])
        self.check(3, [[1, 2, 3]], [3, 3, 3], 5, [[1, 2, 3]])
        self.check(3, [[1, 1, 0], [0, 1, 1]], [0, 40, 0], 534, [[13, 26, 13], [13, 27, 14], [14, 27, 13]])
        self.check(3, [[3, 0, 0], [0, 0, 5]], [4, 40, -12], 1605, [[3, 0, -10]])

    def test_ends_of_the_range(self):
        for n in (1, 2, 3):
            for point in product((-40, 40), repeat=n):
                self.check(n, UNITS[n], list(point), 0, [list(point)])
                self.check(n, [[9 * x for x in v] for v in UNITS[n]], list(point), 16 * n,
                           [[x - x // 10 for x in point]])

    def test_a_member_is_nearest_to_itself_alone(self):
        for n in (1, 2, 3):
            for count in range(n + 2):
                for vectors in samples(n, count, 3, 6):
                    rows = form_rows(n, vectors)
                    for times in product((-2, 0, 1), repeat=len(rows)):
                        member = sum_of(n, times, rows)
                        if max(map(abs, member)) <= 40:
                            self.check(n, vectors, member, 0, [member])

    def test_at_most_2_to_the_rank(self):
        for n in (1, 2, 3):
            for count in range(n + 1):
                for vectors in samples(n, count, 2, 4):
                    for point in product((-1, 0, 1, 2), repeat=n):
                        told = ask(new(n, vectors), near(list(point)))
                        self.assertLessEqual(told[1][2], 2 ** told[0][1], (vectors, point))
                        self.assertGreaterEqual(told[1][2], 1)

    def test_a_members_step_further_all_is_the_same(self):
        for n in (2, 3):
            for vectors in samples(n, n, 4, 12):
                for point in samples(n, 5, 9, 1)[0]:
                    told = ask(new(n, vectors), near(point), near([x + y for x, y in zip(point, vectors[0])]))
                    self.assertEqual(told[1][:4], told[2][:4])
                    shifted = [x + vectors[0][k % n] for k, x in enumerate(told[1][4:])]
                    self.assertEqual(told[2][4:], shifted)

    def test_asking_changes_nothing(self):
        told = ask(new(2, [[3, 1], [1, -3]]), FORM, near([2, 4]), near([2, 4]), near([40, -40]), FORM)
        self.assertEqual(told[2], told[3])
        self.assertEqual(told[1], told[5])


class AgainstASearch(unittest.TestCase):
    def check(self, n, points, *calls):
        told = ask(*calls, FORM, *[near(point) for point in points])
        rows = rows_of(told[len(calls)], n)
        for point, answer in zip(points, told[len(calls) + 1:]):
            # Neither the zero vector nor what a rounding of the pivots leads to is nearer than the nearest.
            bound = min(length(point), length(minus(point, self.some_member(rows, point))))
            found = members_within(rows, point, bound)
            least = min(length(minus(v, point)) for v in found)
            expected = sorted(v for v in found if length(minus(v, point)) == least)
            self.assertEqual(answer, nearest(least, expected), (calls, point))

    def some_member(self, rows, point):
        rest = point
        for line in rows:
            place = next(k for k, x in enumerate(line) if x)
            often = (2 * rest[place] + line[place]) // (2 * line[place])
            rest = [x - often * y for x, y in zip(rest, line)]
        return minus(point, rest)

    def test_small_numbers(self):
        for n in (1, 2, 3):
            points = [list(v) for v in product((-3, 0, 2), repeat=n)]
            for count in range(n + 2):
                for vectors in samples(n, count, 2, 8):
                    for start in range(0, len(points), 12):
                        self.check(n, points[start:start + 12], new(n, vectors))

    def test_all_the_range(self):
        for n, how_many in ((1, 20), (2, 20), (3, 12)):
            for count in range(1, n + 2):
                points = samples(n, 6, 40, how_many, start=count)
                for vectors, chosen in zip(samples(n, count, 9, how_many), points):
                    self.check(n, chosen, new(n, vectors))

    def test_halves_of_members(self):
        for n in (2, 3):
            for vectors in samples(n, n, 4, 25):
                doubled = [[2 * x for x in vector] for vector in vectors]
                points = [sum_of(n, times, vectors) for times in product((0, 1), repeat=n)]
                self.check(n, points, new(n, doubled))

    def test_behind_other_calls(self):
        for n in (1, 2, 3):
            for first, second in zip(samples(n, 2, 4, 15), samples(n, 2, 4, 15, start=9)):
                for call in (join(second), meet(second), ACROSS, FILL):
                    self.check(n, samples(n, 4, 40, 1)[0], new(n, first), call)


if __name__ == "__main__":
    unittest.main()
