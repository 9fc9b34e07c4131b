"""The form of a lattice, what is read off its rows, and a search among its vectors. Nothing handed in is changed."""


def less(vector, times, other):
    """The vector less so many times the other one."""
    return [vector[place] - times * other[place] for place in range(len(vector))]


def cleared(lead, vector, place):
    """Two vectors that make what lead and vector make, the second with 0 at the place."""
    first = lead
    second = vector
    while second[place] != 0:
        rest = less(first, first[place] // second[place], second)
        first = second
        second = rest
    return (first, second)


def gathered(vectors, n, place):
    """A lead and others that make what the vectors make, the others all with 0 at the place."""
    lead = [0] * n
    others = []
    for vector in vectors:
        pair = cleared(lead, vector, place)
        lead = pair[0]
        others.append(pair[1])
    return (lead, others)


def upright(lead, place):
    """The lead or its negative, whichever is above 0 at the place."""
    if lead[place] > 0:
        return lead
    return [-number for number in lead]


def form_of(vectors, n):
    """The rows of the one form of the lattice that the vectors, of n places, make."""
    rows = []
    rest = vectors
    for place in range(n):
        pair = gathered(rest, n, place)
        rest = pair[1]
        # A lead with 0 there is the zero vector it began as: no row has its pivot there, nothing is lost.
        if pair[0][place] != 0:
            lead = upright(pair[0], place)
            # The lead has 0 ahead of this place, so what was reduced at earlier pivots stays so.
            rows = [less(row, row[place] // lead[place], lead) for row in rows]
            rows.append(lead)
    return rows


def pivot_place(row):
    """The first place at which a form's row isn't 0."""
    place = 0
    while row[place] == 0:
        place = place + 1
    return place


def divided(vector, rows):
    """How often each of the form's rows goes into the vector, and what's left of it."""
    times = []
    rest = vector
    for row in rows:
        place = pivot_place(row)
        # Floored, so that what stays is from 0 to one less than the pivot below 0 as well.
        often = rest[place] // row[place]
        times.append(often)
        rest = less(rest, often, row)
    return (times, rest)


def all_in(vectors, rows):
    """Whether every one of the vectors is in the lattice of the form's rows."""
    for vector in vectors:
        if any(divided(vector, rows)[1]):
            return False
    return True


def product(first, second):
    """The sum of the products of two vectors' numbers, place by place."""
    return sum([first[place] * second[place] for place in range(len(first))])


def without(matrix, column):
    """The matrix less its first row and that column."""
    return [row[:column] + row[column + 1:] for row in matrix[1:]]


def determinant(matrix):
    """The determinant, by the first row; that of no rows is 1. It nests as deep as there are rows, at most 3."""
    if len(matrix) == 0:
        return 1
    total = 0
    sign = 1
    for column in range(len(matrix)):
        total = total + sign * matrix[0][column] * determinant(without(matrix, column))
        sign = -sign
    return total


def products(vector, rows):
    """The vector's product with each of the rows."""
    return [product(vector, row) for row in rows]


def size_between(rows, others):
    """The determinant of the rows' products with as many others."""
    return determinant([products(row, others) for row in rows])


def size_of(rows):
    """The size of the lattice of the rows, whether they are its form's or others that make it."""
    return size_between(rows, rows)


def pivot_product(rows):
    """The product of a form's pivots; that of no rows is 1."""
    total = 1
    for row in rows:
        total = total * row[pivot_place(row)]
    return total


def index_of(part, rows):
    """How many classes the lattice of the rows has by the part, which lies in it and is of its rank."""
    # Of one rank, both forms have their pivots at the same places, so the part's rows are a triangle of
    # multiples of the rows: its diagonal, pivot by pivot, is how often the one goes into the other.
    return pivot_product(part) // pivot_product(rows)


def unit(place, n):
    """The vector of n places with 1 at that place, else 0."""
    return [1 if other == place else 0 for other in range(n)]


def behind(vectors, ahead, n):
    """The form's rows of what stands at the last n places where the vectors' lattice has 0 at all those ahead."""
    return [row[ahead:] for row in form_of(vectors, ahead + n) if pivot_place(row) >= ahead]


def met_of(rows, others, n):
    """The form's rows of what's in both lattices."""
    # With 0 ahead, the rows' part and the others' part cancel out: what's behind is in both.
    pairs = [row + row for row in rows] + [other + [0] * n for other in others]
    return behind(pairs, n, n)


def across_of(rows, n):
    """The form's rows of what's across the lattice."""
    # Ahead stand a vector's products with the rows, behind them the vector itself.
    vectors = [[row[place] for row in rows] + unit(place, n) for place in range(n)]
    return behind(vectors, len(rows), n)


def filled_of(rows, n):
    """The form's rows of the lattice filled, which is across twice."""
    return across_of(across_of(rows, n), n)


def length(vector):
    """The sum of the squares of the vector's numbers."""
    return product(vector, vector)


def rounded(vector, rows):
    """What's left of the vector if each row, from the last on, is taken from it the nearest whole number of times."""
    rest = vector
    for count in range(len(rows), 0, -1):
        whole = size_of(rows[:count])
        part = size_between(rows[:count], rows[:count - 1] + [rest])
        rest = less(rest, (2 * part + whole) // (2 * whole), rows[count - 1])
    return rest


def reduced(rows):
    """Short rows that make the same lattice (by Lenstra, Lenstra and Lovasz), so that a search tries few multiples."""
    made = rows
    place = 1
    while place < len(made):
        before = made[:place - 1]
        first = made[place - 1]
        second = rounded(made[place], made[:place])
        # Swapped only where that takes more than a quarter off the size of the rows so far, so not often.
        if 4 * size_of(before + [second]) < 3 * size_of(before + [first]):
            made = before + [second, first] + made[place + 1:]
            place = max(place - 1, 1)
        else:
            made = before + [first, second] + made[place + 1:]
            place = place + 1
    return made


def reached(point, rows, bound, most=None):
    """What's left of the point by taking vectors of the rows' lattice from it: all that isn't longer than the bound.

    Once more than the most are found, the search may stop. It nests as deep as there are rows, at most 3.
    """
    if len(rows) == 0:
        return [point] if length(point) <= bound else []
    last = rows[-1]
    often = size_between(rows, rows[:-1] + [point]) // size_of(rows)
    fewer = reached_by_steps(less(point, often, last), rows, -1, bound, most)
    return fewer + reached_by_steps(less(point, often + 1, last), rows, 1, bound, most)


def reached_by_steps(start, rows, step, bound, most):
    """What's reached from the start by taking the last row a step more often each time, until that leads too far."""
    before = rows[:-1]
    # The size of the rows before and the rest is theirs alone times the square of how far it stands off their span.
    limit = bound * size_of(before)
    found = []
    rest = start
    while size_of(before + [rest]) <= limit and (most is None or len(found) <= most):
        found.extend(reached(rest, before, bound, most))
        rest = less(rest, step, rows[-1])
    return found


def least_of(rows):
    """The least length of a vector other than zero in the lattice of the rows, of which there is one at least."""
    made = reduced(rows)
    lengths = [length(vector) for vector in reached([0] * len(made[0]), made, length(made[0]))]
    return min([number for number in lengths if number > 0])


def by_length(vector):
    """What vectors are sorted by where the shorter stand first and those of one length in order."""
    return [length(vector)] + vector


def short_of(rows, n, bound, most):
    """The told vectors not longer than the bound, by length and in order, or None if there are more than the most."""
    zero = [0] * n
    # Found are the zero vector and, with each told one, its negative.
    found = reached(zero, reduced(rows), bound, 2 * most + 1)
    if len(found) > 2 * most + 1:
        return None
    # The told ones are those that come behind the zero vector in order.
    return sorted([vector for vector in found if vector > zero], key=by_length)


def nearest_of(rows, point):
    """The lattice's vectors that are nearest to the point, in order."""
    made = reduced(rows)
    rests = reached(point, made, length(rounded(point, made)))
    least = min([length(rest) for rest in rests])
    return sorted([less(point, 1, rest) for rest in rests if length(rest) == least])
