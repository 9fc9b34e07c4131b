"""Refusals: which one, in which order, and that they change nothing."""

import unittest

from helper import ACROSS, FILL, FORM, LEAST, SIZE, add, ask, has, index, join, left, meet, near, nearest, new, new_row
from helper import row, same, short, with_row

NO_LATTICE = [-9]
BAD = [-1]
NOT_IN_IT = [-2]
NONE_BUT_ZERO = [-2]
TOO_MANY = [-6]

WITH_A_VECTOR = (2, 4, 5, 15)
WITH_A_LATTICE = (7, 8, 9, 10)
ALL_BUT_NEW = (
    add([1, 2]), FORM, has([1, 2]), left([1, 2]), SIZE, same([[1, 2]]), index([[1, 2]]),
    join([[1, 2]]), meet([[1, 2]]), ACROSS, FILL, LEAST, short(60), near([1, 2]),
)
WITH_BAD_ROWS = tuple(
    with_row(code, numbers) for code in WITH_A_VECTOR + WITH_A_LATTICE for numbers in ([], [1] * 5, [1] * 12)
)
BAD_NEWS = (
    new_row(0, []),
    new_row(0, [1, 2, 3]),
    new_row(4, []),
    new_row(4, [1, 2, 3, 4]),
    new_row(4294967295, []),
    new_row(4294967295, [1]),
    new_row(2, [1]),
    new_row(2, [1, 2, 3]),
    new_row(3, [1, 2]),
    new_row(3, [1, 2, 3, 4]),
    new_row(1, [1] * 13),
    new_row(1, [1] * 48),
    new_row(2, [1] * 26),
    new_row(2, [1] * 25),
    new_row(2, [1] * 48),
    new_row(3, [1] * 39),
    new_row(3, [1] * 48),
)


class NoLattice(unittest.TestCase):
    def test_each_call_first(self):
        for call in ALL_BUT_NEW:
            self.assertEqual(ask(call), [NO_LATTICE], call)

    def test_it_comes_before_a_bad_row(self):
        for call in WITH_BAD_ROWS:
            self.assertEqual(ask(call), [NO_LATTICE], call)
        for code in WITH_A_LATTICE:
            self.assertEqual(ask(with_row(code, [1] * 48), with_row(7, [1] * 47)), [NO_LATTICE] * 2)

    def test_all_of_them_in_one_list(self):
        self.assertEqual(ask(*ALL_BUT_NEW), [NO_LATTICE] * 14)

    def test_after_a_refused_new(self):
        for refused in BAD_NEWS:
            for some in (ALL_BUT_NEW[:7], ALL_BUT_NEW[7:]):
                self.assertEqual(ask(refused, *some), [BAD] + [NO_LATTICE] * 7, refused)

    def test_no_other_call_makes_one(self):
        self.assertEqual(ask(add([1]), FORM, new(1, []), FORM), [NO_LATTICE, NO_LATTICE, [0, 0], row([])])
        self.assertEqual(ask(join([[1]]), meet([[1]]), ACROSS, FILL, FORM), [NO_LATTICE] * 5)


class BadNew(unittest.TestCase):
    def test_refused(self):
        for refused in BAD_NEWS:
            self.assertEqual(ask(refused), [BAD], refused)

    def test_the_most_that_is_not_refused(self):
        self.assertEqual(ask(new_row(1, [4] * 12), new_row(2, [4] * 24), new_row(3, [4] * 36)), [[0, 1]] * 3)

    def test_it_leaves_the_lattice_as_it_was(self):
        for refused in BAD_NEWS:
            self.assertEqual(
                ask(new(2, [[2, 7], [0, 3]]), refused, FORM, SIZE, left([3, 3])),
                [[0, 2], BAD, row([2, 1, 0, 3]), [0, 36], row([1, 2])],
                refused,
            )


class BadRow(unittest.TestCase):
    def test_a_vector_of_another_count(self):
        for n in (1, 2, 3):
            for count in (0, 1, 2, 3, 4, 6, 12):
                if count != n:
                    for code in WITH_A_VECTOR:
                        self.assertEqual(ask(new(n, []), with_row(code, [0] * count))[1], BAD, (n, count, code))

    def test_a_lattice_whose_count_is_no_multiple(self):
        for n, counts in ((2, (1, 3, 23, 25, 47)), (3, (1, 2, 4, 35, 37, 47))):
            for count in counts:
                for code in WITH_A_LATTICE:
                    self.assertEqual(ask(new(n, []), with_row(code, [0] * count))[1], BAD, (n, count, code))

    def test_a_lattice_of_more_than_twelve_vectors(self):
        for n, counts in ((1, (13, 48)), (2, (26, 48)), (3, (39, 48))):
            for count in counts:
                for code in WITH_A_LATTICE:
                    self.assertEqual(ask(new(n, []), with_row(code, [0] * count))[1], BAD, (n, count, code))

    def test_a_lattice_of_just_twelve_vectors(self):
        for n in (1, 2, 3):
            twelve = [[0] * n] * 12
            self.assertEqual(
                ask(new(n, []), same(twelve), index(twelve), join(twelve), meet(twelve)),
                [[0, 0], [0, 1], [0, 1], [0, 0], [0, 0]],
            )

    def test_it_comes_before_what_is_not_in_it(self):
        self.assertEqual(ask(new(2, []), has([1]), with_row(8, [1, 1, 1])), [[0, 0], BAD, BAD])

    def test_it_leaves_the_lattice_as_it_was(self):
        for code in WITH_A_VECTOR + WITH_A_LATTICE:
            for numbers in ([1, 0, 5], [1]):
                self.assertEqual(
                    ask(new(2, [[2, 7], [0, 3]]), with_row(code, numbers), FORM, SIZE, LEAST),
                    [[0, 2], BAD, row([2, 1, 0, 3]), [0, 36], [0, 5]],
                )

    def test_it_counts_by_the_lattice_that_stands_now(self):
        self.assertEqual(
            ask(new(2, [[1, 2]]), near([1, 2]), near([1, 2, 3]), new(3, [[1, 2, 3]]), near([1, 2]), near([1, 2, 3]),
                with_row(9, [1, 2, 3, 4]), join([[0, 0, 1]]), with_row(10, [1, 2])),
            [[0, 1], nearest(0, [[1, 2]]), BAD, [0, 1], BAD, nearest(0, [[1, 2, 3]]), BAD, [0, 2], BAD],
        )

    def test_the_calls_without_a_row_have_none_that_is_bad(self):
        self.assertEqual(
            ask(new(3, []), FORM, SIZE, LEAST, short(0), ACROSS, FILL),
            [[0, 0], row([]), [0, 1], NONE_BUT_ZERO, row([]), [0, 3], [0, 3]],
        )

    def test_n_is_that_of_the_lattice_that_stands(self):
        self.assertEqual(
            ask(new(3, []), has([0, 0]), new(2, []), has([0, 0]), new_row(3, [1]), has([0, 0])),
            [[0, 0], BAD, [0, 0], row([]), BAD, row([])],
        )


class NotInIt(unittest.TestCase):
    def test_it_leaves_the_lattice_as_it_was(self):
        self.assertEqual(
            ask(new(2, [[2, 7], [0, 3]]), has([1, 0]), index([[1, 0], [0, 1]]), FORM, SIZE),
            [[0, 2], NOT_IN_IT, NOT_IN_IT, row([2, 1, 0, 3]), [0, 36]],
        )


class NoneButZero(unittest.TestCase):
    def test_it_leaves_the_lattice_as_it_was(self):
        self.assertEqual(
            ask(new(2, [[0, 0]]), LEAST, FORM, SIZE, add([0, 3]), LEAST),
            [[0, 0], NONE_BUT_ZERO, row([]), [0, 1], [0, 1], [0, 9]],
        )


class TooMany(unittest.TestCase):
    def test_it_leaves_the_lattice_as_it_was(self):
        self.assertEqual(
            ask(new(2, [[2, 7], [0, 3]]), short(4294967295), FORM, SIZE, short(8)),
            [[0, 2], TOO_MANY, row([2, 1, 0, 3]), [0, 36], row([2, 1, 2, -2])],
        )


class SecondNew(unittest.TestCase):
    def test_it_takes_the_first_ones_place(self):
        self.assertEqual(
            ask(new(2, [[1, 0], [0, 1]]), new(2, [[3, 1]]), FORM, SIZE, has([1, 0])),
            [[0, 2], [0, 1], row([3, 1]), [0, 10], NOT_IN_IT],
        )

    def test_with_another_n(self):
        self.assertEqual(
            ask(new(3, [[1, 0, 0]]), new(1, [[4]]), FORM, add([6]), FORM, new(2, []), FORM, left([5, -5])),
            [[0, 1], [0, 1], row([4]), [0, 1], row([2]), [0, 0], row([]), row([5, -5])],
        )

    def test_behind_across_fill_join_and_meet(self):
        self.assertEqual(
            ask(new(3, [[1, 0, 0]]), ACROSS, new(1, [[4]]), FORM, FILL, join([[9]]), meet([[6]]), new(2, []), FORM),
            [[0, 1], [0, 2], [0, 1], row([4]), [0, 1], [0, 1], [0, 1], [0, 0], row([])],
        )


if __name__ == "__main__":
    unittest.main()
