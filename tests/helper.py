"""Calls written as lists, answers read back, and plain oracles that share nothing with the package."""

from itertools import combinations
from math import gcd, isqrt

from wholelattices.lattice import answers

FORM = [3]
SIZE = [6]
ACROSS = [11]
FILL = [12]
LEAST = [13]


def flat(vectors):
    return [number for vector in vectors for number in vector]


def with_row(code, row):
    return [code, len(row)] + list(row)


def new_row(n, row):
    return [1, n, len(row)] + list(row)


def new(n, vectors):
    return new_row(n, flat(vectors))


def add(vector):
    return with_row(2, vector)


def has(vector):
    return with_row(4, vector)


def left(vector):
    return with_row(5, vector)


def same(vectors):
    return with_row(7, flat(vectors))


def index(vectors):
    return with_row(8, flat(vectors))


def join(vectors):
    return with_row(9, flat(vectors))


def meet(vectors):
    return with_row(10, flat(vectors))


def short(bound):
    return [14, bound]


def near(vector):
    return with_row(15, vector)


def ask(*calls):
    """The answers to one list of calls, a list of numbers each."""
    assert 1 <= len(calls) <= 14, "a list has 1 to 14 calls"
    assert sum(call[0] == 10 for call in calls) <= 1, "at most one is meet"
    assert sum(call[0] in (11, 12) for call in calls) <= 2, "at most two are across or fill"
    handed = flat(calls)
    assert len(handed) <= 800, "a list has at most 800 numbers"
    told = answers(handed)
    split = []
    place = 0
    while place < len(told):
        split.append(told[place + 1:place + 1 + told[place]])
        place += 1 + told[place]
    assert place == len(told) and len(split) == len(calls), told
    return split


def ask_last(*calls):
    return ask(*calls)[-1]


def row(numbers):
    """The answer that is that row."""
    return [0, len(numbers)] + list(numbers)


def row_of(answer):
    """The row that the answer is."""
    assert answer[0] == 0 and answer[1] == len(answer) - 2, answer
    return answer[2:]


def rows_of(answer, n):
    numbers = row_of(answer)
    assert len(numbers) % n == 0, answer
    return [numbers[start:start + n] for start in range(0, len(numbers), n)]


def form_rows(n, vectors):
    return rows_of(ask_last(new(n, vectors), FORM), n)


def nearest(length, vectors):
    """The answer to near that tells these vectors."""
    return [0, length, len(vectors)] + row(flat(vectors))[1:]


def length(vector):
    return sum(number * number for number in vector)


def told_of(vectors):
    """Of these vectors the told ones, by their lengths, those of one length in order."""
    return sorted([v for v in vectors if any(v) and v[pivot(v)] > 0], key=lambda v: (length(v), v))


def pivot(vector):
    return next(place for place, number in enumerate(vector) if number != 0)


def determinant(matrix):
    if not matrix:
        return 1
    return sum(
        (-1) ** k * matrix[0][k] * determinant([line[:k] + line[k + 1:] for line in matrix[1:]])
        for k in range(len(matrix))
    )


def minors(n, vectors, rank):
    """The determinants of that many of the vectors at that many of the places."""
    return [
        determinant([[vector[place] for place in places] for vector in chosen])
        for chosen in combinations(vectors, rank)
        for places in combinations(range(n), rank)
    ]


def rank_of(n, vectors):
    return max(rank for rank in range(n + 1) if any(minors(n, vectors, rank)))


def volume(n, vectors):
    """The greatest common divisor of the largest minors that aren't all 0: of two lattices of one rank,
    the one within the other, they are the same just if it's the same for both."""
    return gcd(*minors(n, vectors, rank_of(n, vectors)))


def in_lattice(n, vectors, vector):
    """Whether the vector adds nothing to the vectors: neither the rank nor the volume changes."""
    more = vectors + [vector]
    return rank_of(n, more) == rank_of(n, vectors) and volume(n, more) == volume(n, vectors)


def members_within(rows, point, bound):
    """All vectors of the lattice of a form's rows whose difference from the point has at most that length.

    Every row has a multiple for each number that's near enough at the row's pivot; the rows behind don't change it."""
    reach = isqrt(bound)
    found = [[0] * len(point)]
    for line in rows:
        place = pivot(line)
        step = line[place]
        grown = []
        for vector in found:
            fewest = -((vector[place] - point[place] + reach) // step)
            most = (point[place] + reach - vector[place]) // step
            for often in range(fewest, most + 1):
                grown.append([x + often * y for x, y in zip(vector, line)])
        found = grown
    return [v for v in found if length([x - y for x, y in zip(v, point)]) <= bound]


def size_by_minors(n, rows):
    """The size by Cauchy and Binet: the sum of the squares of the rows' largest minors."""
    return sum(minor * minor for minor in minors(n, rows, len(rows)))


def sum_of(n, times, rows):
    return [sum(often * line[place] for often, line in zip(times, rows)) for place in range(n)]


def samples(n, count, most, how_many, start=1):
    """That many lists of vectors with numbers from -most to most, the same ones at every run."""
    state = start
    made = []
    for _ in range(how_many):
        vectors = []
        for _ in range(count):
            vector = []
            for _ in range(n):
                state = (state * 1103515245 + 12345) % 2147483648
                vector.append((state >> 12) % (2 * most + 1) - most)
            vectors.append(vector)
        made.append(vectors)
    return made
