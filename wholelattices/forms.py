"""The form of a lattice and what is read off its rows. No vector that is handed in is changed."""


def less(vector, times, other):
    """The vector less so many times the other one."""
    return [vector[place] - times * other[place] for place in range(len(vector))]


def cleared(lead, vector, place):
    """Two vectors that make what lead and vector make, the second with 0 at the place."""
    first = lead
    second = vector
    while second[place] != 0:
        rest = less(first, first[place] // second[place], second)
        first = second
        second = rest
    return (first, second)


def gathered(vectors, n, place):
    """A lead and others that make what the vectors make, the others all with 0 at the place."""
    lead = [0] * n
    others = []
    for vector in vectors:
        pair = cleared(lead, vector, place)
        lead = pair[0]
        others.append(pair[1])
    return (lead, others)


def upright(lead, place):
    """The lead or its negative, whichever is above 0 at the place."""
    if lead[place] > 0:
        return lead
    return [-number for number in lead]


def form_of(vectors, n):
    """The rows of the one form of the lattice that the vectors, of n places, make."""
    rows = []
    rest = vectors
    for place in range(n):
        pair = gathered(rest, n, place)
        rest = pair[1]
        # A lead with 0 there is the zero vector it began as: no row has its pivot there, nothing is lost.
        if pair[0][place] != 0:
            lead = upright(pair[0], place)
            # The lead has 0 ahead of this place, so what was reduced at earlier pivots stays so.
            rows = [less(row, row[place] // lead[place], lead) for row in rows]
            rows.append(lead)
    return rows


def pivot_place(row):
    """The first place at which a form's row isn't 0."""
    place = 0
    while row[place] == 0:
        place = place + 1
    return place


def divided(vector, rows):
    """How often each of the form's rows goes into the vector, and what's left of it."""
    times = []
    rest = vector
    for row in rows:
        place = pivot_place(row)
        # Floored, so that what stays is from 0 to one less than the pivot below 0 as well.
        often = rest[place] // row[place]
        times.append(often)
        rest = less(rest, often, row)
    return (times, rest)


def all_in(vectors, rows):
    """Whether every one of the vectors is in the lattice of the form's rows."""
    for vector in vectors:
        if any(divided(vector, rows)[1]):
            return False
    return True


def product(first, second):
    """The sum of the products of two vectors' numbers, place by place."""
    return sum([first[place] * second[place] for place in range(len(first))])


def without(matrix, column):
    """The matrix less its first row and that column."""
    return [row[:column] + row[column + 1:] for row in matrix[1:]]


def determinant(matrix):
    """The determinant, by the first row; that of no rows is 1. It nests as deep as there are rows, at most 3."""
    if len(matrix) == 0:
        return 1
    total = 0
    sign = 1
    for column in range(len(matrix)):
        total = total + sign * matrix[0][column] * determinant(without(matrix, column))
        sign = -sign
    return total


def products(vector, rows):
    """The vector's product with each of the rows."""
    return [product(vector, row) for row in rows]


def size_of(rows):
    """The size of the lattice: the determinant of its form's rows' products with one another."""
    return determinant([products(row, rows) for row in rows])


def pivot_product(rows):
    """The product of a form's pivots; that of no rows is 1."""
    total = 1
    for row in rows:
        total = total * row[pivot_place(row)]
    return total


def index_of(part, rows):
    """How many classes the lattice of the rows has by the part, which lies in it and is of its rank."""
    # Of one rank, both forms have their pivots at the same places, so the part's rows are a triangle of
    # multiples of the rows: its diagonal, pivot by pivot, is how often the one goes into the other.
    return pivot_product(part) // pivot_product(rows)
