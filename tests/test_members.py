"""has and left: how often the form's rows go into a vector, and what's left of it (promise 2)."""

import unittest
from itertools import product

from helper import FORM, ask, ask_last, form_rows, has, left, new, pivot, rank_of, row, row_of, rows_of, samples
from helper import sum_of, volume

NOT_IN_IT = [-2]


class Has(unittest.TestCase):
    def test_one_place(self):
        self.assertEqual(
            ask(new(1, [[6], [-9]]), has([12]), has([-3]), has([0]), has([4]), has([-1]), has([39]), has([-40])),
            [[0, 1], row([4]), row([-1]), row([0]), NOT_IN_IT, NOT_IN_IT, row([13]), NOT_IN_IT],
        )

    def test_two_places(self):
        self.assertEqual(
            ask(new(2, [[2, 7], [0, 3]]), has([2, 7]), has([-4, 1]), has([0, 0]), has([1, 0]), has([2, 0])),
            [[0, 2], row([1, 2]), row([-2, 1]), row([0, 0]), NOT_IN_IT, NOT_IN_IT],
        )

    def test_three_places(self):
        self.assertEqual(
            ask(new(3, [[1, 1, 0], [1, -1, 0], [0, 1, 1]]), has([1, 1, 2]), has([-1, 0, 1]), has([0, 0, 1])),
            [[0, 3], row([1, 1, 0]), row([-1, 0, 1]), NOT_IN_IT],
        )

    def test_below_full_rank(self):
        self.assertEqual(
            ask(new(3, [[0, 2, -3]]), has([0, -4, 6]), has([0, 4, 6]), has([1, 2, -3]), has([0, 2, -2])),
            [[0, 1], row([-2]), NOT_IN_IT, NOT_IN_IT, NOT_IN_IT],
        )
        self.assertEqual(
            ask(new(3, [[2, 1, 1], [0, 0, 4]]), has([4, 2, -6]), has([4, 3, 2]), has([4, 2, 3])),
            [[0, 2], row([2, -2]), NOT_IN_IT, NOT_IN_IT],
        )

    def test_rank_0(self):
        for n in (1, 2, 3):
            self.assertEqual(ask(new(n, []), has([0] * n)), [[0, 0], row([])])
            self.assertEqual(ask(new(n, [[0] * n]), has([0] * (n - 1) + [-1])), [[0, 0], NOT_IN_IT])
            self.assertEqual(ask_last(new(n, []), has([40] * n)), NOT_IN_IT)

    def test_ends_of_the_range(self):
        self.assertEqual(
            ask(new(2, [[1, 3], [0, 8]]), has([40, 40]), has([-40, -40]), has([40, -40]), has([-40, 40]), has([40, 39])),
            [[0, 2], row([40, -10]), row([-40, 10]), row([40, -20]), row([-40, 20]), NOT_IN_IT],
        )
        self.assertEqual(
            ask(new(3, [[1, 0, 0], [0, 8, 0], [0, 0, 5]]), has([-40, 40, -40]), has([40, -39, 40])),
            [[0, 3], row([-40, 5, -8]), NOT_IN_IT],
        )

    def test_every_sum_of_multiples_is_in_it_with_those_multiples(self):
        for n in (1, 2, 3):
            for count in range(n + 2):
                for vectors in samples(n, count, 2, 8):
                    self.check_sums(n, vectors)

    def check_sums(self, n, vectors):
        rows = form_rows(n, vectors)
        for times in product((-2, 0, 1), repeat=len(rows)):
            vector = sum_of(n, times, rows)
            if max(map(abs, vector)) <= 40:
                self.assertEqual(ask_last(new(n, vectors), has(vector)), row(times), (vectors, vector))

    def test_in_it_just_if_adding_it_changes_neither_rank_nor_volume(self):
        for vectors in samples(2, 2, 3, 25):
            for vector in product(range(-3, 4), repeat=2):
                self.check_membership(2, vectors, list(vector))
        for count in (1, 2, 3):
            for vectors in samples(3, count, 2, 6):
                for vector in product((-3, -1, 0, 2), repeat=3):
                    self.check_membership(3, vectors, list(vector))

    def check_membership(self, n, vectors, vector):
        more = vectors + [vector]
        member = rank_of(n, more) == rank_of(n, vectors) and volume(n, more) == volume(n, vectors)
        answer = ask_last(new(n, vectors), has(vector))
        if member:
            self.assertEqual(sum_of(n, row_of(answer), form_rows(n, vectors)), vector)
        else:
            self.assertEqual(answer, NOT_IN_IT)


class Left(unittest.TestCase):
    def test_one_place(self):
        self.assertEqual(
            ask(new(1, [[5]]), left([0]), left([5]), left([7]), left([-7]), left([-1]), left([40]), left([-40])),
            [[0, 1], row([0]), row([0]), row([2]), row([3]), row([4]), row([0]), row([0])],
        )

    def test_two_places(self):
        self.assertEqual(
            ask(new(2, [[2, 7], [0, 3]]), left([2, 7]), left([3, 3]), left([-1, 0]), left([-40, 40]), left([40, -40])),
            [[0, 2], row([0, 0]), row([1, 2]), row([1, 1]), row([0, 0]), row([0, 0])],
        )

    def test_places_without_a_pivot_keep_what_they_get(self):
        self.assertEqual(
            ask(new(3, [[0, 2, -3]]), left([7, 5, 5]), left([-40, -40, 40]), left([0, -1, 0])),
            [[0, 1], row([7, 1, 11]), row([-40, 0, -20]), row([0, 1, -3])],
        )
        self.assertEqual(ask_last(new(2, [[2, -3]]), left([39, -40])), row([1, 17]))

    def test_three_places(self):
        self.assertEqual(
            ask(new(3, [[1, 1, 0], [1, -1, 0], [0, 1, 1]]), left([0, 0, -1]), left([40, -39, 40]), left([-40, 40, -40])),
            [[0, 3], row([0, 0, 1]), row([0, 0, 1]), row([0, 0, 0])],
        )

    def test_rank_0(self):
        for n in (1, 2, 3):
            for vector in ([0] * n, [-40] * n, [40] * n):
                self.assertEqual(ask(new(n, []), left(vector)), [[0, 0], row(vector)])

    def test_of_the_same_class_and_reduced_at_each_pivot(self):
        numbers = (-40, -13, -1, 0, 2, 17, 40)
        for n in (1, 2, 3):
            for count in range(n + 2):
                for vectors in samples(n, count, 9, 4):
                    for vector in product(numbers, repeat=n):
                        self.check_left(n, vectors, list(vector))

    def check_left(self, n, vectors, vector):
        told = ask(new(n, vectors), FORM, left(vector))
        rows = rows_of(told[1], n)
        rest = row_of(told[2])
        self.assertEqual(len(rest), n)
        for line in rows:
            self.assertIn(rest[pivot(line)], range(line[pivot(line)]), (vectors, vector))
        taken = [x - y for x, y in zip(vector, rest)]
        self.assertEqual(rank_of(n, rows + [taken]), len(rows), (vectors, vector))
        self.assertEqual(volume(n, rows + [taken]), volume(n, rows), (vectors, vector))

    def test_members_leave_zero(self):
        for vectors in samples(3, 3, 9, 20):
            for vector in vectors:
                self.assertEqual(ask_last(new(3, vectors), left(vector)), row([0, 0, 0]))

    def test_asking_changes_nothing(self):
        told = ask(new(2, [[2, 7], [0, 3]]), FORM, has([2, 1]), left([9, 9]), has([1, 1]), FORM)
        self.assertEqual(told[1], told[5])


if __name__ == "__main__":
    unittest.main()
