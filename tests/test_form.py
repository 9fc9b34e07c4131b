"""new, add and form: every lattice has just one form, however it was made (promise 1)."""

import unittest
from itertools import permutations, product

from helper import FORM, add, ask, ask_last, form_rows, new, pivot, rank_of, row, rows_of, samples, volume
from wholelattices.lattice import answers


class FormOfGivenVectors(unittest.TestCase):
    def check(self, n, vectors, rows):
        self.assertEqual(ask(new(n, vectors), FORM), [[0, len(rows)], row([x for r in rows for x in r])])

    def test_one_place(self):
        self.check(1, [], [])
        self.check(1, [[0]], [])
        self.check(1, [[-5]], [[5]])
        self.check(1, [[6], [-9]], [[3]])
        self.check(1, [[6], [0], [9], [8]], [[1]])

    def test_two_places(self):
        self.check(2, [], [])
        self.check(2, [[0, 0]], [])
        self.check(2, [[0, -4]], [[0, 4]])
        self.check(2, [[-2, 3]], [[2, -3]])
        self.check(2, [[2, 0], [1, 3], [4, -6]], [[1, 3], [0, 6]])
        self.check(2, [[2, 7], [0, 3]], [[2, 1], [0, 3]])
        self.check(2, [[2, -7], [0, -3]], [[2, 2], [0, 3]])

    def test_three_places(self):
        self.check(3, [], [])
        self.check(3, [[0, 0, 0], [0, 0, 0]], [])
        self.check(3, [[0, 0, -7]], [[0, 0, 7]])
        self.check(3, [[0, -6, 9], [0, 4, -6]], [[0, 2, -3]])
        self.check(3, [[2, 1, 9], [0, 0, 4]], [[2, 1, 1], [0, 0, 4]])
        self.check(3, [[1, 1, 0], [1, -1, 0], [0, 1, 1]], [[1, 0, 1], [0, 1, 1], [0, 0, 2]])
        self.check(3, [[9, 0, 0], [0, 9, 0], [0, 0, 9], [-9, 9, -9]], [[9, 0, 0], [0, 9, 0], [0, 0, 9]])

    def test_numbers_that_are_not_above_a_pivot_stay_as_they_are(self):
        self.check(2, [[1, -9]], [[1, -9]])
        self.check(3, [[1, 9, -9], [0, 2, 9]], [[1, 1, -45], [0, 2, 9]])

    def test_dependent_vectors(self):
        self.check(3, [[1, 2, 3], [2, 4, 6], [-3, -6, -9]], [[1, 2, 3]])
        self.check(3, [[4, 8, 0], [6, 0, 6], [2, -8, 6]], [[2, 16, -6], [0, 24, -12]])

    def test_the_zero_vector_among_them(self):
        self.check(2, [[0, 0], [3, 1], [0, 0]], [[3, 1]])

    def test_twelve_vectors(self):
        self.check(1, [[9 * (-1) ** k] for k in range(11)] + [[6]], [[3]])
        self.check(2, [[4, 2]] * 11 + [[0, 3]], [[4, 2], [0, 3]])
        self.check(3, [[6, 0, 0], [0, 6, 0], [0, 0, 6]] * 3 + [[4, 2, 0], [0, 4, 2], [2, 0, 4]],
                   [[2, 0, 4], [0, 2, 4], [0, 0, 6]])

    def test_wholly_flat_answer(self):
        self.assertEqual(answers([1, 2, 4, 2, 7, 0, 3, 3]), [2, 0, 2, 6, 0, 4, 2, 1, 0, 3])
        self.assertEqual(answers([1, 3, 0, 3]), [2, 0, 0, 2, 0, 0])


class FormsRules(unittest.TestCase):
    def check(self, n, vectors):
        rows = form_rows(n, vectors)
        self.assertEqual(len(rows), rank_of(n, vectors), vectors)
        places = [pivot(r) for r in rows]
        self.assertEqual(places, sorted(set(places)), vectors)
        for k, place in enumerate(places):
            self.assertGreater(rows[k][place], 0, vectors)
            for before in rows[:k]:
                self.assertIn(before[place], range(rows[k][place]), vectors)
        # The vectors add nothing to the rows, and the rows nothing to the vectors: one rank, one volume.
        self.assertEqual(rank_of(n, rows + vectors), len(rows), vectors)
        self.assertEqual(volume(n, rows), volume(n, rows + vectors), vectors)
        self.assertEqual(volume(n, vectors), volume(n, rows), vectors)

    def test_one_place(self):
        for first, second in product(range(-9, 10), repeat=2):
            self.check(1, [[first], [second]])

    def test_two_places(self):
        for numbers in product(range(-3, 4), repeat=4):
            self.check(2, [list(numbers[:2]), list(numbers[2:])])

    def test_two_places_with_many_vectors(self):
        for count in (1, 3, 4, 12):
            for vectors in samples(2, count, 9, 60):
                self.check(2, vectors)

    def test_three_places(self):
        for count in (1, 2, 3, 4, 6, 12):
            for most in (1, 2, 9):
                for vectors in samples(3, count, most, 40):
                    self.check(3, vectors)


class HoweverItWasMade(unittest.TestCase):
    def made_by_add(self, n, vectors):
        return ask(new(n, []), *[add(v) for v in vectors], FORM)

    def test_add_answers_the_rank_each_time(self):
        self.assertEqual(
            ask(new(3, []), add([0, 0, 0]), add([2, 2, 0]), add([-3, -3, 0]), add([0, 1, 1]), add([5, 0, 0]), FORM),
            [[0, 0], [0, 0], [0, 1], [0, 1], [0, 2], [0, 3], row([1, 0, 4, 0, 1, 1, 0, 0, 5])],
        )

    def test_add_in_one_and_two_places(self):
        self.assertEqual(ask(new(1, []), add([-6]), add([4]), FORM), [[0, 0], [0, 1], [0, 1], row([2])])
        self.assertEqual(ask(new(2, [[0, 5]]), add([3, -1]), FORM), [[0, 1], [0, 2], row([3, 4, 0, 5])])

    def test_every_order_at_once_and_one_by_one(self):
        for n, count in ((1, 3), (2, 3), (3, 3), (3, 4)):
            for vectors in samples(n, count, 9, 12):
                expected = ask_last(new(n, vectors), FORM)
                for order in permutations(vectors):
                    self.assertEqual(ask_last(new(n, order), FORM), expected, order)
                    self.assertEqual(self.made_by_add(n, order)[-1], expected, order)

    def test_partly_by_new_and_partly_by_add(self):
        for vectors in samples(3, 5, 9, 30):
            expected = ask_last(new(3, vectors), FORM)
            for cut in range(6):
                self.assertEqual(ask_last(new(3, vectors[:cut]), *[add(v) for v in vectors[cut:]], FORM), expected)

    def test_other_vectors_of_the_same_lattice(self):
        for first, second, third in samples(3, 3, 4, 40):
            expected = ask_last(new(3, [first, second, third]), FORM)
            negative = [-x for x in first]
            summed = [x + y for x, y in zip(second, third)]
            self.assertEqual(ask_last(new(3, [third, negative, summed, second]), FORM), expected)

    def test_the_form_makes_itself(self):
        for vectors in samples(2, 2, 2, 60):
            rows = form_rows(2, vectors)
            if all(abs(x) <= 9 for r in rows for x in r):
                self.assertEqual(form_rows(2, rows), rows)

    def test_add_to_a_lattice_of_twelve_vectors(self):
        self.assertEqual(ask(new(1, [[8]] * 12), add([6]), add([3]), FORM), [[0, 1], [0, 1], [0, 1], row([1])])

    def test_form_asked_twice_is_the_same(self):
        told = ask(new(2, [[3, 1], [1, 2]]), FORM, FORM)
        self.assertEqual(told[1], told[2])
        self.assertEqual(rows_of(told[1], 2), [[1, 2], [0, 5]])


if __name__ == "__main__":
    unittest.main()
