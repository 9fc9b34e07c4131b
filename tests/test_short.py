"""least and short: the shortest vectors, all of them, each once, in order (promise 2)."""

import unittest
from itertools import product

from helper import ACROSS, FILL, FORM, LEAST, ask, ask_last, flat, in_lattice, join, length, meet, members_within, new
from helper import row, rows_of, samples, short, told_of

NONE_BUT_ZERO = [-2]
TOO_MANY = [-6]
UNITS = {1: [[1]], 2: [[1, 0], [0, 1]], 3: [[1, 0, 0], [0, 1, 0], [0, 0, 1]]}
EVEN_SUMS = [[1, 1, 0], [1, -1, 0], [0, 1, 1]]


class Least(unittest.TestCase):
    def check(self, n, vectors, least):
        self.assertEqual(ask_last(new(n, vectors), LEAST), [0, least], vectors)

    def test_rank_0(self):
        for n in (1, 2, 3):
            self.assertEqual(ask_last(new(n, []), LEAST), NONE_BUT_ZERO)
            self.assertEqual(ask_last(new(n, [[0] * n]), LEAST), NONE_BUT_ZERO)
            self.assertEqual(ask_last(new(n, UNITS[n]), ACROSS, LEAST), NONE_BUT_ZERO)
        self.assertEqual(ask_last(new(2, [[1, 2]]), meet([[2, 1]]), LEAST), NONE_BUT_ZERO)

    def test_rank_1(self):
        self.check(1, [[1]], 1)
        self.check(1, [[-7]], 49)
        self.check(1, [[6], [9]], 9)
        self.check(2, [[2, 4]], 20)
        self.check(2, [[0, -5]], 25)
        self.check(3, [[2, 4, 6]], 56)
        self.check(3, [[0, 6, -9], [0, -4, 6]], 13)

    def test_rank_2(self):
        self.check(2, [[2, 7], [0, 3]], 5)
        self.check(2, UNITS[2], 1)
        self.check(2, [[9, 0], [0, 9]], 81)
        self.check(3, [[1, 1, 0], [0, 1, 1]], 2)
        self.check(3, [[2, 0, 0], [0, 0, 3]], 4)

    def test_rank_3(self):
        self.check(3, UNITS[3], 1)
        self.check(3, EVEN_SUMS, 2)
        self.check(3, [[1, 2, 2], [2, 1, -2], [2, -2, 1]], 9)
        self.check(3, [[9, 0, 0], [0, 9, 0], [0, 0, 9]], 81)

    def test_the_shortest_is_not_a_row_of_the_form(self):
        for n, vectors, rows, least in (
            (2, [[1, 4], [0, 9]], [[1, 4], [0, 9]], 5),
            (2, [[3, 1], [1, -3]], [[1, 7], [0, 10]], 10),
            (3, [[1, 0, 6], [0, 1, -7]], [[1, 0, 6], [0, 1, -7]], 3),
            (3, [[1, 0, 5], [0, 1, 3], [0, 0, 9]], [[1, 0, 5], [0, 1, 3], [0, 0, 9]], 3),
            (3, [[5, -3, 1], [2, 4, -3], [-1, 3, 6]], [[1, 1, 38], [0, 2, 22], [0, 0, 101]], 29),
        ):
            self.assertEqual(ask(new(n, vectors), FORM, LEAST)[1:], [row(flat(rows)), [0, least]])
            self.assertNotIn(least, [length(line) for line in rows])

    def test_the_shortest_is_a_sum_of_short_vectors_only(self):
        # (2, 2, 2), (-2, 1, -2) and (-2, -2, 1) can't be made shorter by rounding; (2, -1, -1) is none of them.
        self.check(3, [[2, 2, 2], [0, 3, 0], [0, 0, 3]], 6)
        self.check(3, [[1, -5, -5], [-3, 4, 1], [-5, 5, 5]], 16)
        self.check(3, [[-5, -2, -2], [2, 1, -6], [-3, 4, -5]], 33)
        self.check(3, [[8, -8, -4], [9, -1, -1], [-4, -1, -7]], 59)

    def test_asking_changes_nothing(self):
        told = ask(new(2, [[3, 1], [1, -3]]), FORM, LEAST, LEAST, short(60), FORM)
        self.assertEqual(told[2], told[3])
        self.assertEqual(told[1], told[5])


class Short(unittest.TestCase):
    def check(self, n, vectors, bound, rows):
        self.assertEqual(ask_last(new(n, vectors), short(bound)), row(flat(rows)), (vectors, bound))

    def test_rank_0(self):
        for n in (1, 2, 3):
            for bound in (0, 1, 60):
                self.check(n, [], bound, [])
                self.check(n, [[0] * n] * 2, bound, [])

    def test_bound_0(self):
        for n in (1, 2, 3):
            self.check(n, UNITS[n], 0, [])
            self.check(n, [[2] * n], 0, [])

    def test_one_place(self):
        self.check(1, [[1]], 60, [[1], [2], [3], [4], [5], [6], [7]])
        self.check(1, [[-3]], 36, [[3], [6]])
        self.check(1, [[-3]], 35, [[3]])

    def test_two_places(self):
        self.check(2, UNITS[2], 1, [[0, 1], [1, 0]])
        self.check(2, UNITS[2], 5, [[0, 1], [1, 0], [1, -1], [1, 1], [0, 2], [2, 0], [1, -2], [1, 2], [2, -1], [2, 1]])
        self.check(2, [[2, 7], [0, 3]], 9, [[2, 1], [2, -2], [0, 3]])
        self.check(2, [[2, 7], [0, 3]], 8, [[2, 1], [2, -2]])
        self.check(2, [[-1, 2]], 60, [[1, -2], [2, -4], [3, -6]])

    def test_three_places(self):
        self.check(3, UNITS[3], 2, [[0, 0, 1], [0, 1, 0], [1, 0, 0], [0, 1, -1], [0, 1, 1], [1, -1, 0], [1, 0, -1],
                                    [1, 0, 1], [1, 1, 0]])
        self.check(3, EVEN_SUMS, 2, [[0, 1, -1], [0, 1, 1], [1, -1, 0], [1, 0, -1], [1, 0, 1], [1, 1, 0]])
        self.check(3, EVEN_SUMS, 1, [])
        self.check(3, [[-1, -2, -3]], 56, [[1, 2, 3], [2, 4, 6]])
        self.check(3, [[-1, -2, -3]], 55, [[1, 2, 3]])
        self.check(3, [[1, 1, 0], [0, 1, 1]], 6, [[0, 1, 1], [1, 0, -1], [1, 1, 0], [1, -1, -2], [1, 2, 1], [2, 1, -1]])
        self.check(3, [[1, 2, 2], [2, 1, -2], [2, -2, 1]], 9, [[1, 2, 2], [2, -2, 1], [2, 1, -2]])

    def test_all_are_longer(self):
        self.check(1, [[8]], 60, [])
        self.check(2, [[6, 5]], 60, [])
        self.check(2, [[8, 0], [0, 8]], 60, [])
        self.check(3, [[9, 0, 0], [0, 9, 0], [0, 0, 9]], 60, [])
        self.check(3, [[5, 5, 5]], 60, [])

    def test_all_whole_vectors_up_to_60(self):
        for n in (1, 2, 3):
            box = [list(v) for v in product(range(-7, 8), repeat=n)]
            for bound in (3, 17, 59, 60):
                self.check(n, UNITS[n], bound, told_of([v for v in box if length(v) <= bound]))
        self.assertEqual(len(ask_last(new(3, UNITS[3]), short(60))), 2 + 3 * 967)

    def test_against_membership(self):
        for n, most, bound in ((1, 7, 60), (2, 3, 30), (3, 1, 8)):
            box = [list(v) for v in product(range(-7, 8), repeat=n) if 0 < length(v) <= bound]
            for count in range(1, n + 2):
                for vectors in samples(n, count, most, 6):
                    self.check(n, vectors, bound, told_of([v for v in box if in_lattice(n, vectors, v)]))

    def test_least_is_the_first_ones_length(self):
        for vectors in samples(3, 3, 4, 40):
            told = ask(new(3, vectors), LEAST, short(60))
            vectors_told = rows_of(told[2], 3)
            if vectors_told:
                self.assertEqual(told[1], [0, length(vectors_told[0])])
            else:
                self.assertGreater(told[1][1], 60)


class AgainstASearch(unittest.TestCase):
    def check(self, n, *calls):
        told = ask(*calls, FORM, LEAST, short(60), short(29))
        rows = rows_of(told[-4], n)
        for answer, bound in ((told[-2], 60), (told[-1], 29)):
            self.assertEqual(rows_of(answer, n), told_of(members_within(rows, [0] * n, bound)), calls)
        if rows:
            found = members_within(rows, [0] * n, min(told[-3][1], *[length(line) for line in rows]))
            self.assertEqual(told[-3], [0, min(length(v) for v in found if any(v))], calls)
        else:
            self.assertEqual(told[-3], NONE_BUT_ZERO, calls)

    def test_small_numbers(self):
        for n in (1, 2, 3):
            for count in range(n + 2):
                for most in (1, 2, 4):
                    for vectors in samples(n, count, most, 12):
                        self.check(n, new(n, vectors))

    def test_all_the_range(self):
        for n, how_many in ((1, 20), (2, 40), (3, 20)):
            for count in range(1, n + 2):
                for vectors in samples(n, count, 9, how_many):
                    self.check(n, new(n, vectors))

    def test_behind_other_calls(self):
        for n in (1, 2, 3):
            for first, second in zip(samples(n, 2, 4, 20), samples(n, 2, 4, 20, start=9)):
                for call in (join(second), meet(second), ACROSS, FILL):
                    self.check(n, new(n, first), call)


class TooMany(unittest.TestCase):
    """A bound of up to 60 never leads to so many; what the words say beyond it holds too."""

    def test_just_4096_are_told(self):
        told = ask_last(new(1, [[1]]), short(4096 ** 2))
        self.assertEqual(told, row(list(range(1, 4097))))
        self.assertEqual(ask_last(new(1, [[1]]), short(4097 ** 2 - 1)), told)

    def test_one_more_is_refused(self):
        self.assertEqual(ask_last(new(1, [[1]]), short(4097 ** 2)), TOO_MANY)

    def test_two_and_three_places(self):
        for n, reach in ((2, 52), (3, 13)):
            box = sorted(length(v) for v in product(range(-reach, reach + 1), repeat=n) if v > (0,) * n)
            # The last bound that isn't refused is one less than the length of the 4097th told vector.
            bound = box[4096] - 1
            self.assertLess(bound + 1, (reach + 1) ** 2)
            told = ask(new(n, UNITS[n]), short(bound), short(bound + 1))
            self.assertEqual([length(v) for v in rows_of(told[1], n)], [x for x in box if x <= bound])
            self.assertEqual(told[2], TOO_MANY)

    def test_the_largest_bound(self):
        for n in (1, 2, 3):
            self.assertEqual(ask_last(new(n, UNITS[n]), short(4294967295)), TOO_MANY)
            self.assertEqual(ask_last(new(n, []), short(4294967295)), row([]))

    def test_it_leaves_the_lattice_as_it_was(self):
        self.assertEqual(
            ask(new(2, [[3, 1], [1, -3]]), short(10 ** 6), FORM, short(10)),
            [[0, 2], TOO_MANY, row([1, 7, 0, 10]), row([1, -3, 3, 1])],
        )


if __name__ == "__main__":
    unittest.main()
