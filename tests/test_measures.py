"""size, same and index; a lattice's size is its index squared times that of the one it lies in (promise 3)."""

import unittest
from itertools import product

from helper import FORM, SIZE, ask, ask_last, form_rows, index, left, new, row_of, rank_of, same, samples
from helper import size_by_minors, sum_of

NOT_IN_IT = [-2]


class Size(unittest.TestCase):
    def check(self, n, vectors, size):
        self.assertEqual(ask_last(new(n, vectors), SIZE), [0, size])

    def test_rank_0_is_1(self):
        for n in (1, 2, 3):
            self.check(n, [], 1)
            self.check(n, [[0] * n], 1)

    def test_below_n(self):
        self.check(2, [[3, 4]], 25)
        self.check(2, [[0, -4]], 16)
        self.check(3, [[1, -2, 3]], 14)
        self.check(3, [[1, 1, 0], [0, 1, 1]], 3)
        self.check(3, [[2, 0, 0], [0, 0, 3]], 36)

    def test_rank_n(self):
        self.check(1, [[-7]], 49)
        self.check(2, [[2, 7], [0, 3]], 36)
        self.check(2, [[1, 0], [0, 1]], 1)
        self.check(3, [[1, 1, 0], [1, -1, 0], [0, 1, 1]], 4)
        self.check(3, [[9, 0, 0], [0, 9, 0], [0, 0, 9]], 531441)

    def test_sum_of_the_minors_squares(self):
        for n in (1, 2, 3):
            for count in range(n + 2):
                for vectors in samples(n, count, 9, 25):
                    self.check(n, vectors, size_by_minors(n, form_rows(n, vectors)))


class Same(unittest.TestCase):
    def test_one_place(self):
        self.assertEqual(
            ask(new(1, [[6], [9]]), same([[3]]), same([[-3], [0]]), same([[6]]), same([])),
            [[0, 1], [0, 1], [0, 1], [0, 0], [0, 0]],
        )

    def test_two_places(self):
        self.assertEqual(
            ask(new(2, [[2, 7], [0, 3]]), same([[-2, -1], [2, -2]]), same([[2, 1]]), same([[2, 0], [0, 3]]),
                same([[2, 1], [0, 3], [1, 0]])),
            [[0, 2], [0, 1], [0, 0], [0, 0], [0, 0]],
        )

    def test_three_places(self):
        self.assertEqual(
            ask(new(3, [[1, 2, 3], [0, 1, 1]]), same([[1, 3, 4], [1, 2, 3]]), same([[1, 2, 3], [0, 2, 2]]),
                same([[1, 2, 3]]), same([[1, 2, 3], [0, 0, 1]])),
            [[0, 2], [0, 1], [0, 0], [0, 0], [0, 0]],
        )

    def test_rank_0(self):
        self.assertEqual(
            ask(new(2, []), same([]), same([[0, 0]] * 12), same([[0, 1]])), [[0, 0], [0, 1], [0, 1], [0, 0]]
        )

    def test_twelve_vectors(self):
        self.assertEqual(ask_last(new(3, [[2, 1, 0]]), same([[2, 1, 0]] * 11 + [[-4, -2, 0]])), [0, 1])

    def test_same_just_if_the_form_is(self):
        made = samples(2, 2, 1, 30)
        for first, second in product(made, repeat=2):
            expected = int(form_rows(2, first) == form_rows(2, second))
            self.assertEqual(ask_last(new(2, first), same(second)), [0, expected], (first, second))


class Index(unittest.TestCase):
    def test_one_place(self):
        self.assertEqual(
            ask(new(1, [[2]]), index([[2]]), index([[-6]]), index([[8], [6]]), index([[3]]), index([]), index([[0]])),
            [[0, 1], [0, 1], [0, 3], [0, 1], NOT_IN_IT, [0, 0], [0, 0]],
        )

    def test_two_places(self):
        self.assertEqual(
            ask(new(2, [[1, 1], [0, 2]]), index([[1, 1], [1, -1]]), index([[2, 0], [0, 2]]), index([[3, 3], [0, 4]]),
                index([[1, 1]]), index([[1, 0], [0, 2]]), index([[2, 2], [0, 1]])),
            [[0, 2], [0, 1], [0, 2], [0, 6], [0, 0], NOT_IN_IT, NOT_IN_IT],
        )

    def test_three_places(self):
        self.assertEqual(
            ask(new(3, [[1, 0, 0], [0, 1, 0], [0, 0, 1]]), index([[2, 1, 0], [0, 3, 1], [0, 0, 5]]),
                index([[1, 1, 0], [1, -1, 0], [0, 1, 1]]), index([[1, 2, 3], [4, 5, 6]])),
            [[0, 3], [0, 30], [0, 2], [0, 0]],
        )

    def test_below_full_rank(self):
        self.assertEqual(
            ask(new(3, [[1, 2, 3]]), index([[-3, -6, -9]]), index([[1, 2, 3], [2, 4, 6]]), index([[1, 2, 4]])),
            [[0, 1], [0, 3], [0, 1], NOT_IN_IT],
        )
        self.assertEqual(
            ask(new(3, [[1, 1, 0], [0, 1, 1]]), index([[2, 3, 1], [0, 3, 3]]), index([[2, 3, 1], [0, 0, 1]])),
            [[0, 2], [0, 6], NOT_IN_IT],
        )

    def test_rank_0_in_rank_0(self):
        for n in (1, 2, 3):
            self.assertEqual(ask(new(n, []), index([]), index([[0] * n])), [[0, 0], [0, 1], [0, 1]])

    def test_a_vector_that_is_not_in_it_comes_before_another_rank(self):
        self.assertEqual(ask_last(new(2, []), index([[1, 0]])), NOT_IN_IT)
        self.assertEqual(ask_last(new(2, [[2, 0]]), index([[2, 0], [0, 1]])), NOT_IN_IT)
        self.assertEqual(ask_last(new(2, [[2, 0], [0, 2]]), index([[1, 0]])), NOT_IN_IT)

    def parts(self):
        """Lattices with lattices of their rank that lie in them."""
        for n in (1, 2, 3):
            for count in range(1, n + 1):
                for vectors in samples(n, count, 2, 25):
                    for times in samples(count, count, 2, 6, start=len(vectors) + n):
                        part = [sum_of(n, line, vectors) for line in times]
                        within = all(abs(x) <= 9 for vector in part for x in vector)
                        if within and rank_of(n, part) == rank_of(n, vectors):
                            yield n, vectors, part

    def test_size_is_the_index_squared_times_the_size_of_the_one_it_lies_in(self):
        seen = 0
        for n, vectors, part in self.parts():
            told = ask(new(n, vectors), SIZE, index(part), new(n, part), SIZE)
            self.assertEqual(told[4][1], told[2][1] ** 2 * told[1][1], (vectors, part))
            seen += 1
        self.assertGreater(seen, 100)

    def test_number_of_classes(self):
        seen = 0
        for n, vectors, part in self.parts():
            told = ask_last(new(n, vectors), index(part))[1]
            if 1 < told <= 6:
                self.assertEqual(self.classes(n, vectors, part, told), told, (vectors, part))
                seen += 1
        self.assertGreater(seen, 20)

    def classes(self, n, vectors, part, most):
        """The classes counted by what's left: every multiple from 0 to the index suffices."""
        rows = form_rows(n, vectors)
        members = [sum_of(n, times, rows) for times in product(range(most + 1), repeat=len(rows))]
        members = [member for member in members if max(map(abs, member)) <= 40]
        found = set()
        for start in range(0, len(members), 13):
            for answer in ask(new(n, part), *[left(m) for m in members[start:start + 13]])[1:]:
                found.add(tuple(row_of(answer)))
        return len(found)

    def test_asking_changes_nothing(self):
        told = ask(new(2, [[2, 7], [0, 3]]), FORM, SIZE, same([[1, 0]]), index([[4, 2]]), index([[1, 0]]), FORM, SIZE)
        self.assertEqual(told[1:3], told[6:8])


if __name__ == "__main__":
    unittest.main()
