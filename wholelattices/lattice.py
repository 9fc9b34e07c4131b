"""The calls on a lattice of whole vectors, handed in and answered as flat lists of whole numbers."""

from wholelattices.forms import across_of, all_in, divided, filled_of, form_of, index_of, least_of, length, less, met_of
from wholelattices.forms import nearest_of, short_of, size_of

MOST_PLACES = 3
MOST_VECTORS = 12
MOST_SHORT = 4096

NO_LATTICE = -9
BAD_HANDED = -1
NOT_IN_IT = -2
NONE_BUT_ZERO = -2
TOO_MANY = -6

# A call's number: its name, whether a whole number comes first, and what its row is (None: it has no row).
CALLS = {
    1: ("new", True, "lattice"),
    2: ("add", False, "vector"),
    3: ("form", False, None),
    4: ("has", False, "vector"),
    5: ("left", False, "vector"),
    6: ("size", False, None),
    7: ("same", False, "lattice"),
    8: ("index", False, "lattice"),
    9: ("join", False, "lattice"),
    10: ("meet", False, "lattice"),
    11: ("across", False, None),
    12: ("fill", False, None),
    13: ("least", False, None),
    14: ("short", True, None),
    15: ("near", False, "vector"),
}


class Call:
    """One call as it stands in the list, read from the place at which it begins."""

    def __init__(self, calls, place):
        kind = CALLS[calls[place]]
        self.name = kind[0]
        self.row_kind = kind[2]
        self.number = 0
        self.row = []
        self.after = place + 1
        if kind[1]:
            self.number = calls[self.after]
            self.after = self.after + 1
        if self.row_kind is not None:
            start = self.after + 1
            self.after = start + calls[self.after]
            self.row = calls[start:self.after]


class Standing:
    """The lattice that stands: its places and its form's rows. While there's none, n is 0."""

    def __init__(self):
        self.n = 0
        self.rows = []


def fits(call, n):
    """Whether the call's row, if it has one, is a vector or a lattice of n places."""
    if call.row_kind == "vector":
        return len(call.row) == n
    return len(call.row) % n == 0 and len(call.row) <= MOST_VECTORS * n


def form_of_row(row, n):
    """The form's rows of a lattice that is handed over as a row."""
    return form_of([row[start:start + n] for start in range(0, len(row), n)], n)


def stand(standing, n, rows):
    """Lets the lattice of the form's rows stand from now on and answers its rank."""
    standing.n = n
    standing.rows = rows
    return [0, len(rows)]


def flat(rows):
    """The rows' numbers, one behind another."""
    numbers = []
    for row in rows:
        numbers.extend(row)
    return numbers


def row_answer(row):
    """The answer that is a row."""
    return [0, len(row)] + row


def answer_new(standing, call):
    """The answer to new, which alone needs no lattice and brings its own n."""
    n = call.number
    if n < 1 or n > MOST_PLACES or not fits(call, n):
        return [BAD_HANDED]
    return stand(standing, n, form_of_row(call.row, n))


def answer_has(rows, vector):
    """The answer to has."""
    pair = divided(vector, rows)
    if any(pair[1]):
        return [NOT_IN_IT]
    return row_answer(pair[0])


def answer_index(rows, others):
    """The answer to index, where the others are the form's rows of the lattice that is handed over."""
    if not all_in(others, rows):
        return [NOT_IN_IT]
    if len(others) != len(rows):
        return [0, 0]
    return [0, index_of(others, rows)]


def answer_least(rows):
    """The answer to least."""
    if len(rows) == 0:
        return [NONE_BUT_ZERO]
    return [0, least_of(rows)]


def answer_short(standing, bound):
    """The answer to short."""
    vectors = short_of(standing.rows, standing.n, bound, MOST_SHORT)
    if vectors is None:
        return [TOO_MANY]
    return row_answer(flat(vectors))


def answer_near(rows, vector):
    """The answer to near."""
    vectors = nearest_of(rows, vector)
    numbers = flat(vectors)
    return [0, length(less(vector, 1, vectors[0])), len(vectors), len(numbers)] + numbers


def answer_plain(standing, name):
    """The answer to a call that has neither a number nor a row."""
    if name == "form":
        return row_answer(flat(standing.rows))
    if name == "size":
        return [0, size_of(standing.rows)]
    if name == "least":
        return answer_least(standing.rows)
    if name == "across":
        return stand(standing, standing.n, across_of(standing.rows, standing.n))
    return stand(standing, standing.n, filled_of(standing.rows, standing.n))


def answer_vector(standing, name, vector):
    """The answer to a call with a vector."""
    if name == "add":
        return stand(standing, standing.n, form_of(standing.rows + [vector], standing.n))
    if name == "has":
        return answer_has(standing.rows, vector)
    if name == "left":
        return row_answer(divided(vector, standing.rows)[1])
    return answer_near(standing.rows, vector)


def answer_lattice(standing, name, others):
    """The answer to a call with a lattice, of which the others are the form's rows."""
    if name == "same":
        return [0, 1 if others == standing.rows else 0]
    if name == "index":
        return answer_index(standing.rows, others)
    if name == "join":
        return stand(standing, standing.n, form_of(standing.rows + others, standing.n))
    return stand(standing, standing.n, met_of(standing.rows, others, standing.n))


def answer_to(standing, call):
    """The numbers that are answered to one call. A refusal leaves what stands as it was."""
    if call.name == "new":
        return answer_new(standing, call)
    if standing.n == 0:
        return [NO_LATTICE]
    if not fits(call, standing.n):
        return [BAD_HANDED]
    if call.row_kind == "vector":
        return answer_vector(standing, call.name, call.row)
    if call.row_kind == "lattice":
        return answer_lattice(standing, call.name, form_of_row(call.row, standing.n))
    if call.name == "short":
        return answer_short(standing, call.number)
    return answer_plain(standing, call.name)


def answers(calls):
    """For each call of the list, in order: how many numbers are answered, then these."""
    standing = Standing()
    told = []
    place = 0
    while place < len(calls):
        call = Call(calls, place)
        place = call.after
        answer = answer_to(standing, call)
        told.append(len(answer))
        told.extend(answer)
    return told
