"""join, meet, across and fill: what stands behind them, and its form (promises 1 and 3)."""

import unittest
from itertools import product
from math import gcd

from helper import ACROSS, FILL, FORM, SIZE, add, ask, ask_last, flat, form_rows, has, in_lattice, join, meet
from helper import members_within, new, rank_of, row, rows_of, same, samples, volume

NOT_IN_IT = [-2]
UNITS = {1: [[1]], 2: [[1, 0], [0, 1]], 3: [[1, 0, 0], [0, 1, 0], [0, 0, 1]]}
EVEN_SUMS = [[1, 1, 0], [1, -1, 0], [0, 1, 1]]


def lattices(n, most, how_many, start=1):
    """Lattices of n places, of every rank."""
    return [vectors for count in range(n + 2) for vectors in samples(n, count, most, how_many, start + count)]


def pairs(n, most, how_many):
    """Pairs of lattices of n places, of every two ranks."""
    return list(product(lattices(n, most, how_many), lattices(n, most, how_many, start=77)))


class Made(unittest.TestCase):
    def check(self, n, vectors, call, rows):
        """The call answers the rank, and these are the form's rows from then on."""
        self.assertEqual(
            ask(new(n, vectors), call, FORM)[1:], [[0, len(rows)], row(flat(rows))], (n, vectors, call)
        )

    def made(self, n, vectors, *calls):
        """The form's rows behind the calls, of which the last has answered their number."""
        told = ask(new(n, vectors), *calls, FORM)
        rows = rows_of(told[-1], n)
        self.assertEqual(told[-2], [0, len(rows)], (vectors, calls))
        return rows


class Join(Made):
    def test_one_place(self):
        self.check(1, [], join([[-6]]), [[6]])
        self.check(1, [[4]], join([]), [[4]])
        self.check(1, [[4]], join([[-6]]), [[2]])
        self.check(1, [[4]], join([[9], [0]]), [[1]])
        self.check(1, [], join([[0]]), [])

    def test_two_places(self):
        self.check(2, [], join([[0, 0]]), [])
        self.check(2, [], join([[-2, 4]]), [[2, -4]])
        self.check(2, [[2, 4]], join([[3, 6]]), [[1, 2]])
        self.check(2, [[2, 4]], join([[0, -3]]), [[2, 1], [0, 3]])
        self.check(2, [[2, 1], [0, 3]], join([[0, 1]]), [[2, 0], [0, 1]])
        self.check(2, [[2, 0], [0, 2]], join([[3, 0], [0, 3]]), UNITS[2])

    def test_three_places(self):
        self.check(3, [], join([[0, -5, 5]]), [[0, 5, -5]])
        self.check(3, [[2, 4, 6]], join([[3, 6, 9]]), [[1, 2, 3]])
        self.check(3, [[2, 4, 6]], join([[0, 0, 4]]), [[2, 4, 2], [0, 0, 4]])
        self.check(3, [[1, 1, 0], [0, 1, 1]], join([[0, 2, 0]]), [[1, 0, 1], [0, 1, 1], [0, 0, 2]])
        self.check(3, EVEN_SUMS, join([[9, 0, 0]]), UNITS[3])
        self.check(3, EVEN_SUMS, join([[2, 0, 0], [4, 5, 7]]), [[1, 0, 1], [0, 1, 1], [0, 0, 2]])

    def test_all_vectors_together(self):
        for n in (1, 2, 3):
            for first, second in pairs(n, 9, 3):
                rows = self.made(n, first, join(second))
                self.assertEqual(rows, form_rows(n, first + second))
                self.assertEqual(rows, self.made(n, second, join(first)))

    def test_one_by_one(self):
        for vectors in samples(3, 5, 9, 25):
            rows = form_rows(3, vectors)
            for cut in range(6):
                self.assertEqual(rows, self.made(3, vectors[:cut], *[join([v]) for v in vectors[cut:]], join([])))
                self.assertEqual(rows, self.made(3, vectors[:cut], *[add(v) for v in vectors[cut:]], join([])))

    def test_with_rank_0_and_with_itself(self):
        for n in (1, 2, 3):
            for vectors in lattices(n, 9, 8):
                rows = form_rows(n, vectors)
                for other in ([], [[0] * n] * 12, vectors):
                    self.check(n, vectors, join(other), rows)
                    self.check(n, other, join(vectors), rows)

    def test_twelve_vectors_and_twelve_more(self):
        self.check(1, [[8]] * 12, join([[-8]] * 11 + [[6]]), [[2]])
        self.check(2, [[8, 0]] * 12, join([[0, 9]] * 11 + [[2, 3]]), [[2, 0], [0, 3]])
        self.check(3, [[4, 0, 0], [0, 6, 0]] * 6, join([[0, 0, 8]] * 11 + [[2, 0, 4]]),
                   [[2, 0, 4], [0, 6, 0], [0, 0, 8]])
        for n in (1, 2, 3):
            for vectors in samples(n, 24, 9, 8):
                told = ask(new(n, vectors[:12]), *[add(v) for v in vectors[12:]], FORM)
                self.assertEqual(ask(new(n, vectors[:12]), join(vectors[12:]), FORM)[1:], told[-2:])

    def test_it_stands_from_now_on(self):
        self.assertEqual(
            ask(new(2, [[4, 0]]), join([[0, 6]]), has([4, 6]), SIZE, join([[2, 3]]), SIZE, has([2, -3]), has([2, 0])),
            [[0, 1], [0, 2], row([1, 1]), [0, 576], [0, 2], [0, 144], row([1, -1]), NOT_IN_IT],
        )


class Meet(Made):
    def test_one_place(self):
        self.check(1, [], meet([]), [])
        self.check(1, [], meet([[6]]), [])
        self.check(1, [[4]], meet([]), [])
        self.check(1, [[4]], meet([[0]]), [])
        self.check(1, [[4]], meet([[-6]]), [[12]])
        self.check(1, [[7]], meet([[9]]), [[63]])

    def test_two_places(self):
        self.check(2, [], meet([[1, 0], [0, 1]]), [])
        self.check(2, [[2, 4]], meet([]), [])
        self.check(2, [[2, 4]], meet([[3, 6]]), [[6, 12]])
        self.check(2, [[2, 1], [0, 3]], meet([[1, 0]]), [[6, 0]])
        self.check(2, [[1, 0]], meet([[2, 1], [0, 3]]), [[6, 0]])
        self.check(2, [[2, 0], [0, 2]], meet([[3, 0], [0, 3]]), [[6, 0], [0, 6]])
        self.check(2, [[2, 1], [0, 3]], meet([[1, 0], [0, 2]]), [[2, 4], [0, 6]])

    def test_three_places(self):
        self.check(3, [], meet(EVEN_SUMS), [])
        self.check(3, [[2, 4, 6]], meet([[-3, -6, -9]]), [[6, 12, 18]])
        self.check(3, [[3, 6, 9]], meet(EVEN_SUMS), [[3, 6, 9]])
        self.check(3, [[1, 2, 4]], meet(EVEN_SUMS), [[2, 4, 8]])
        self.check(3, [[1, 0, 0], [0, 1, 0]], meet(EVEN_SUMS), [[1, 1, 0], [0, 2, 0]])
        self.check(3, EVEN_SUMS, meet([[2, 0, 0], [0, 3, 0], [0, 0, 1]]), [[2, 0, 0], [0, 3, 1], [0, 0, 2]])

    def test_two_planes_in_three_places(self):
        self.check(3, [[1, 0, 0], [0, 1, 0]], meet([[0, 1, 0], [0, 0, 1]]), [[0, 1, 0]])
        self.check(3, [[2, 0, 0], [0, 3, 0]], meet([[0, 2, 0], [0, 0, 5]]), [[0, 6, 0]])
        self.check(3, [[1, 1, 0], [0, 1, 1]], meet([[1, 0, 0], [0, 0, 1]]), [[1, 0, -1]])
        self.check(3, [[2, 0, 0], [0, 2, 0]], meet([[3, 0, 0], [3, 3, 0]]), [[6, 0, 0], [0, 6, 0]])

    def test_two_lines_that_share_only_0(self):
        self.check(2, [[2, 4]], meet([[2, 5]]), [])
        self.check(2, [[0, 9]], meet([[9, 0]]), [])
        self.check(3, [[1, 2, 3]], meet([[1, 2, -3]]), [])

    def test_a_plane_and_a_line_that_share_only_0(self):
        self.check(3, [[1, 0, 0], [0, 1, 0]], meet([[0, 0, 1]]), [])
        self.check(3, [[1, 1, 1]], meet([[1, 0, 0], [0, 1, 0]]), [])

    def test_with_rank_0_with_itself_and_with_all(self):
        for n in (1, 2, 3):
            for vectors in lattices(n, 9, 8):
                rows = form_rows(n, vectors)
                for other in ([], [[0] * n] * 12):
                    self.check(n, vectors, meet(other), [])
                    self.check(n, other, meet(vectors), [])
                for other in (vectors, UNITS[n]):
                    self.check(n, vectors, meet(other), rows)
                    self.check(n, other, meet(vectors), rows)

    def test_one_within_the_other(self):
        for n in (1, 2, 3):
            for vectors in lattices(n, 4, 8):
                part = [[2 * x for x in vector] for vector in vectors[1:]]
                self.check(n, vectors, meet(part), form_rows(n, part))
                self.check(n, part, meet(vectors), form_rows(n, part))

    def test_twelve_vectors(self):
        for n in (1, 2, 3):
            self.check(n, [[6 * x for x in v] for v in UNITS[n]], meet([[9] * n] * 12), [[18] * n])

    def test_just_what_is_in_both(self):
        for n, bound, how_many in ((1, 10000, 6), (2, 900, 4), (3, 80, 4)):
            within = [
                (vectors, {tuple(v) for v in members_within(form_rows(n, vectors), [0] * n, bound)})
                for vectors in lattices(n, 3, how_many)
            ]
            for (first, members), (second, others) in product(within, repeat=2):
                met = members_within(self.made(n, first, meet(second)), [0] * n, bound)
                self.assertEqual({tuple(v) for v in met}, members & others, (first, second))

    def test_ranks_and_volumes(self):
        for n in (1, 2, 3):
            for first, second in pairs(n, 9, 4):
                joined = self.made(n, first, join(second))
                met = self.made(n, first, meet(second))
                ranks = rank_of(n, first) + rank_of(n, second)
                self.assertEqual(len(joined) + len(met), ranks, (first, second))
                self.assertEqual(self.made(n, second, meet(first)), met)
                for rows in (first, second):
                    self.assertTrue(all(in_lattice(n, rows, line) for line in met), (first, second))
                # Of one span, the classes of the join by the one are as many as those of the other by the meet.
                if ranks == 2 * len(joined):
                    self.assertEqual(volume(n, joined) * volume(n, met), volume(n, first) * volume(n, second))

    def test_the_line_that_two_planes_share(self):
        seen = 0
        for first, second in zip(samples(3, 2, 9, 60), samples(3, 2, 9, 60, start=99)):
            met = self.made(3, first, meet(second))
            if rank_of(3, first) == rank_of(3, second) == 2 and rank_of(3, first + second) == 3:
                self.assertEqual(len(met), 1)
                whole = gcd(*met[0])
                for part in [[x // k for x in met[0]] for k in range(2, whole + 1) if whole % k == 0]:
                    self.assertFalse(in_lattice(3, first, part) and in_lattice(3, second, part), (first, second))
                seen += 1
        self.assertGreater(seen, 50)

    def test_it_stands_from_now_on(self):
        self.assertEqual(
            ask(new(2, [[2, 1], [0, 3]]), meet([[1, 0], [0, 2]]), has([2, 1]), has([4, 2]), SIZE, add([0, 1]), FORM),
            [[0, 2], [0, 2], NOT_IN_IT, row([2, -1]), [0, 144], [0, 2], row([2, 0, 0, 1])],
        )


class Across(Made):
    def test_rank_0(self):
        for n in (1, 2, 3):
            self.check(n, [], ACROSS, UNITS[n])
            self.check(n, [[0] * n], ACROSS, UNITS[n])

    def test_rank_n(self):
        self.check(1, [[-7]], ACROSS, [])
        self.check(2, [[2, 7], [0, 3]], ACROSS, [])
        self.check(3, EVEN_SUMS, ACROSS, [])
        self.check(3, [[9, 0, 0], [0, 9, 0], [0, 0, 9]], ACROSS, [])

    def test_between(self):
        self.check(2, [[2, 4]], ACROSS, [[2, -1]])
        self.check(2, [[0, 5]], ACROSS, [[1, 0]])
        self.check(2, [[-3, 0]], ACROSS, [[0, 1]])
        self.check(3, [[0, 0, 4]], ACROSS, [[1, 0, 0], [0, 1, 0]])
        self.check(3, [[2, 4, 6]], ACROSS, [[1, 1, -1], [0, 3, -2]])
        self.check(3, [[6, 9, 0]], ACROSS, [[3, -2, 0], [0, 0, 1]])
        self.check(3, [[1, 1, 0], [0, 1, 1]], ACROSS, [[1, -1, 1]])
        self.check(3, [[2, 0, 0], [0, 0, 3]], ACROSS, [[0, 1, 0]])

    def test_at_right_angles_and_all_of_them(self):
        for n in (1, 2, 3):
            for most in (1, 2, 9):
                for vectors in lattices(n, most, 20):
                    rows = self.made(n, vectors, ACROSS)
                    self.assertEqual(len(rows) + rank_of(n, vectors), n, vectors)
                    for line, vector in product(rows, vectors):
                        self.assertEqual(sum(x * y for x, y in zip(line, vector)), 0, vectors)
                    # None is left out between them if the largest minors have no common divisor.
                    self.assertEqual(volume(n, rows), 1, vectors)

    def test_just_those_of_a_box(self):
        for n in (1, 2, 3):
            for vectors in lattices(n, 2, 3):
                rows = self.made(n, vectors, ACROSS)
                for point in product(range(-3, 4), repeat=n):
                    angles = all(sum(x * y for x, y in zip(point, v)) == 0 for v in vectors)
                    self.assertEqual(in_lattice(n, rows, list(point)), angles, (vectors, point))

    def test_it_stands_from_now_on(self):
        self.assertEqual(
            ask(new(3, [[2, 4, 6]]), ACROSS, has([1, 1, -1]), has([1, 1, 1]), SIZE, add([1, 0, 0]), ACROSS, FORM),
            [[0, 1], [0, 2], row([1, 0]), NOT_IN_IT, [0, 14], [0, 3], [0, 0], row([])],
        )


class Fill(Made):
    def test_rank_0(self):
        for n in (1, 2, 3):
            self.check(n, [], FILL, [])
            self.check(n, [[0] * n], FILL, [])

    def test_rank_n(self):
        self.check(1, [[-7]], FILL, UNITS[1])
        self.check(2, [[2, 7], [0, 3]], FILL, UNITS[2])
        self.check(3, EVEN_SUMS, FILL, UNITS[3])
        self.check(3, [[9, 0, 0], [0, 9, 0], [0, 0, 9]], FILL, UNITS[3])

    def test_lines(self):
        self.check(2, [[-4, 6]], FILL, [[2, -3]])
        self.check(2, [[0, 5]], FILL, [[0, 1]])
        self.check(3, [[2, 4, 6]], FILL, [[1, 2, 3]])
        self.check(3, [[1, 2, 3]], FILL, [[1, 2, 3]])
        self.check(3, [[0, -6, 9]], FILL, [[0, 2, -3]])

    def test_planes(self):
        self.check(3, [[1, 1, 0], [1, -1, 0]], FILL, [[1, 0, 0], [0, 1, 0]])
        self.check(3, [[2, 2, 0], [0, 3, 3]], FILL, [[1, 0, -1], [0, 1, 1]])
        self.check(3, [[1, 2, 3], [1, 0, 1]], FILL, [[1, 0, 1], [0, 1, 1]])

    def test_the_same_rank_all_vectors_in_it_and_no_gaps(self):
        for n in (1, 2, 3):
            for most in (1, 2, 9):
                for vectors in lattices(n, most, 20):
                    rows = self.made(n, vectors, FILL)
                    self.assertEqual(len(rows), rank_of(n, vectors), vectors)
                    self.assertEqual(rank_of(n, rows + vectors), len(rows), vectors)
                    self.assertEqual(volume(n, rows), 1, vectors)

    def test_it_is_across_twice(self):
        for n in (1, 2, 3):
            for vectors in lattices(n, 9, 20):
                self.assertEqual(self.made(n, vectors, FILL), self.made(n, vectors, ACROSS, ACROSS))

    def test_of_what_is_filled_is_the_same(self):
        for n in (1, 2, 3):
            for vectors in lattices(n, 9, 20):
                self.assertEqual(self.made(n, vectors, FILL), self.made(n, vectors, FILL, FILL))

    def test_what_is_across_is_filled_and_across_what_is_filled(self):
        for n in (1, 2, 3):
            for vectors in lattices(n, 9, 20):
                rows = self.made(n, vectors, ACROSS)
                self.assertEqual(self.made(n, vectors, ACROSS, FILL), rows)
                self.assertEqual(self.made(n, vectors, FILL, ACROSS), rows)

    def test_it_stands_from_now_on(self):
        self.assertEqual(
            ask(new(3, [[2, 4, 6]]), has([1, 2, 3]), FILL, has([1, 2, 3]), SIZE, same([[-1, -2, -3]]), add([0, 0, 2]),
                FILL, FORM),
            [[0, 1], NOT_IN_IT, [0, 1], row([1]), [0, 14], [0, 1], [0, 2], [0, 2], row([1, 2, 0, 0, 0, 1])],
        )


class OneFormHoweverMade(Made):
    def test_behind_several_of_them(self):
        for vectors, others in zip(samples(3, 2, 9, 30), samples(3, 2, 9, 30, start=5)):
            for calls in ((meet(others), ACROSS), (ACROSS, meet(others)), (join(others), FILL, meet(vectors)),
                          (FILL, meet(others), ACROSS), (meet(others), join(vectors))):
                rows = self.made(3, vectors, *calls)
                self.assertEqual(ask_last(new(3, vectors), *calls, join([]), FORM), row(flat(rows)))
                if all(abs(x) <= 9 for line in rows for x in line):
                    self.assertEqual(form_rows(3, rows), rows)

    def test_meet_of_joins(self):
        # What a lattice has in common with a join that holds it is the lattice itself.
        for vectors, others in zip(samples(3, 2, 9, 30), samples(3, 2, 9, 30, start=5)):
            rows = form_rows(3, vectors)
            self.assertEqual(self.made(3, vectors, join(others), meet(vectors)), rows)
            self.assertEqual(self.made(3, vectors, meet(others), join(vectors)), rows)


if __name__ == "__main__":
    unittest.main()
