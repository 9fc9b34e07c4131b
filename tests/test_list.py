"""The flat list: what is handed in and given back, and that nothing is changed, kept, printed or read."""

import io
import sys
import unittest
from contextlib import redirect_stdout
from unittest import mock

from helper import ACROSS, FILL, FORM, LEAST, SIZE, add, flat, has, index, join, left, meet, near, new, same
from helper import samples, short
from wholelattices.lattice import answers

FOURTEEN = flat([
    FORM, new(2, []), SIZE, add([2, 7]), add([0, 3]), FORM, has([2, 1]), has([1, 1]), left([-40, 40]), SIZE,
    same([[2, 1], [0, -3]]), index([[4, 2], [0, 9]]), left([]), new(1, [[6], [-4]]),
])
TOLD = [
    1, -9, 2, 0, 0, 2, 0, 1, 2, 0, 1, 2, 0, 2, 6, 0, 4, 2, 1, 0, 3, 4, 0, 2, 1, 0, 1, -2, 4, 0, 2, 0, 0, 2, 0, 36,
    2, 0, 1, 2, 0, 6, 1, -1, 2, 0, 1,
]
FOURTEEN_MORE = flat([
    near([1]), new(3, [[2, 4, 6]]), LEAST, FILL, short(56), near([1, 2, 4]), join([[0, 0, 2], [0, 3, 0]]), FORM,
    meet([[2, 0, 0], [0, 2, 0], [0, 0, 1]]), near([0, 0, 1]), LEAST, near([0, 0]), ACROSS, LEAST,
])
TOLD_MORE = [
    1, -9, 2, 0, 1, 2, 0, 56, 2, 0, 1, 8, 0, 6, 1, 2, 3, 2, 4, 6, 7, 0, 1, 1, 3, 1, 2, 3, 2, 0, 3,
    11, 0, 9, 1, 2, 1, 0, 3, 0, 0, 0, 2, 2, 0, 3, 10, 0, 1, 2, 6, 0, 0, 0, 0, 0, 2, 2, 0, 4, 1, -1, 2, 0, 0, 1, -2,
]
LISTS = ((FOURTEEN, TOLD), (FOURTEEN_MORE, TOLD_MORE))


def all_sorts(start):
    """Fourteen calls with vectors of three places, first new and then as the samples have it."""
    vectors = samples(3, 28, 9, 1, start=start)[0]
    calls = [new(3, vectors[:2])]
    for first, second in zip(vectors[2::2], vectors[3::2]):
        chosen = [
            add(first), FORM, has(first), left(second), SIZE, same([first]), index([second]), join([first]), LEAST,
            short(abs(first[0])), near([4 * x for x in second]), meet([first, second]), ACROSS, FILL, new(3, [second]),
        ][abs(first[0] + first[1] + first[2]) % 15]
        # At most one is meet, and at most two are across or fill.
        if sum(call[0] == chosen[0] for call in calls) >= 1 and chosen[0] in (10, 11, 12):
            chosen = near(second)
        calls.append(chosen)
    return calls


def refuse(*ignored):
    raise AssertionError("what is handed in is changed")


class Untouchable(list):
    """A list that can only be read."""

    __setitem__ = __delitem__ = __iadd__ = __imul__ = refuse
    append = clear = extend = insert = pop = remove = reverse = sort = refuse


class FlatList(unittest.TestCase):
    def test_fourteen_calls(self):
        for handed, told in LISTS:
            self.assertEqual(answers(handed), told)

    def test_lists_of_fourteen_calls_of_all_sorts(self):
        """Every call of a list is answered by itself: what comes behind it doesn't change its answer."""
        seen = set()
        for start in range(1, 60):
            calls = all_sorts(start)
            seen.update(call[0] for call in calls)
            whole = answers(flat(calls))
            for count in range(1, 14):
                some = answers(flat(calls[:count]))
                self.assertEqual(whole[:len(some)], some, calls)
        self.assertEqual(seen, set(range(1, 16)))

    def test_one_call(self):
        self.assertEqual(answers([3]), [1, -9])
        self.assertEqual(answers([1, 1, 0]), [2, 0, 0])
        self.assertEqual(answers([1, 4294967295, 0]), [1, -1])
        self.assertEqual(answers([7, 0]), [1, -9])
        self.assertEqual(answers([14, 60]), [1, -9])
        self.assertEqual(answers([15, 0]), [1, -9])

    def test_rows_of_length_0(self):
        self.assertEqual(
            answers([1, 3, 0, 2, 0, 4, 0, 5, 0, 7, 0, 8, 0, 3]),
            [2, 0, 0, 1, -1, 1, -1, 1, -1, 2, 0, 1, 2, 0, 1, 2, 0, 0],
        )
        self.assertEqual(answers([1, 3, 0, 9, 0, 10, 0, 15, 0, 3]), [2, 0, 0, 2, 0, 0, 2, 0, 0, 1, -1, 2, 0, 0])

    def test_a_bound_is_no_row(self):
        self.assertEqual(
            answers([14, 3, 1, 1, 1, 3, 14, 9, 3, 14, 36, 14, 0, 13]),
            [1, -9, 2, 0, 1, 3, 0, 1, 3, 3, 0, 1, 3, 4, 0, 2, 3, 6, 2, 0, 0, 2, 0, 9],
        )

    def test_a_refused_calls_row_is_passed_over(self):
        self.assertEqual(answers([2, 3, 1, 1, 0, 1, 2, 2, 0, 3, 3]), [1, -9, 2, 0, 1, 4, 0, 2, 0, 3])
        self.assertEqual(answers([1, 0, 3, 3, 3, 3, 6, 1, 1, 1, 5, 6]), [1, -1, 1, -9, 2, 0, 1, 2, 0, 25])

    def test_rows_that_look_like_calls(self):
        self.assertEqual(answers([1, 1, 3, 3, 6, 9, 3]), [2, 0, 1, 3, 0, 1, 3])

    def test_eight_hundred_numbers(self):
        lattice = new(2, [[9, -9], [6, 3]] * 12)
        handed = flat([lattice] * 13) + [4, 12] + [40] * 12
        self.assertLessEqual(len(handed), 800)
        self.assertEqual(answers(handed), [1, -1] * 13 + [1, -9])

    def test_the_same_numbers_as_plain_whole_ones(self):
        for handed, _ in LISTS:
            told = answers(handed)
            self.assertIs(type(told), list)
            self.assertEqual({type(number) for number in told}, {int})


class NothingElse(unittest.TestCase):
    def test_what_is_handed_in_is_the_same_afterwards(self):
        for calls, _ in LISTS:
            handed = list(calls)
            answers(handed)
            self.assertEqual(handed, calls)

    def test_what_is_handed_in_is_not_changed_for_a_while_either(self):
        for handed, told in LISTS:
            self.assertEqual(answers(Untouchable(handed)), told)

    def test_twice_in_a_row_gives_the_same(self):
        for handed, _ in LISTS:
            first = answers(handed)
            second = answers(handed)
            self.assertEqual(first, second)
            self.assertIsNot(first, second)

    def test_what_is_given_back_is_the_callers_own(self):
        for handed, told in LISTS:
            answers(handed).clear()
            self.assertEqual(answers(handed), told)

    def test_nothing_is_kept_from_one_time_to_the_next(self):
        self.assertEqual(answers(new(2, [[1, 0], [0, 1]])), [2, 0, 2])
        self.assertEqual(answers(FORM), [1, -9])
        self.assertEqual(answers(add([1, 0])), [1, -9])

    def test_nothing_is_printed_read_or_imported(self):
        printed = io.StringIO()
        before = set(sys.modules)
        with redirect_stdout(printed), mock.patch("sys.stdin", None), mock.patch("builtins.open", refuse):
            answers(FOURTEEN)
            answers(FOURTEEN_MORE)
        self.assertEqual(printed.getvalue(), "")
        self.assertEqual(set(sys.modules), before)

    def test_no_deep_recursion(self):
        depth = 0
        frame = sys._getframe()
        while frame is not None:
            depth += 1
            frame = frame.f_back
        limit = sys.getrecursionlimit()
        handed = flat([new(3, [[1, 1, 0], [1, -1, 0], [0, 1, 1]] * 4)] + [SIZE, LEAST, near([40, 40, 40])] * 4 + [FORM])
        try:
            sys.setrecursionlimit(depth + 30)
            told = answers(handed)
        finally:
            sys.setrecursionlimit(limit)
        some = [2, 0, 4, 2, 0, 2, 7, 0, 0, 1, 3, 40, 40, 40]
        self.assertEqual(told, [2, 0, 3] + some * 4 + [11, 0, 9, 1, 0, 1, 0, 1, 1, 0, 0, 2])


if __name__ == "__main__":
    unittest.main()
