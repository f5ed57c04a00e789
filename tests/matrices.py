"""Matrices for the tests, and slow plain ways to reckon with them straight from the document's words."""

from itertools import permutations
from math import prod

APART = ((2, 0, -1), (0, 2, 0), (-3, 0, 2))
TWO = ((2, -1), (-1, 2))
G_TWO = ((2, -3), (-1, 2))
B_TWO = ((2, -1), (-2, 2))
SNOW = ((2, -2), (-2, 2))
WILD = ((2, -3), (-2, 2))


def from_numbers(many, numbers):
    """The matrix with 2 on the diagonal and these numbers at their places."""
    return tuple(tuple(2 if i == j else numbers.get((i, j), 0) for j in range(many)) for i in range(many))


def from_edges(many, edges, special=None):
    """The matrix with -1 both ways at each edge, but for the special numbers."""
    numbers = {}
    for i, j in edges:
        numbers[i, j] = -1
        numbers[j, i] = -1
    numbers.update(special or {})
    return from_numbers(many, numbers)


def chain(many):
    return [(k, k + 1) for k in range(many - 1)]


def of_type(letter, many):
    """The matrix of one Dynkin type as the document tells it."""
    if letter == "B":
        return from_edges(many, chain(many), {(many - 1, many - 2): -2})
    if letter == "C":
        return from_edges(many, chain(many), {(many - 2, many - 1): -2})
    if letter == "D":
        return from_edges(many, chain(many - 1) + [(many - 1, many - 3)])
    if letter == "E":
        way = [0] + list(range(2, many))
        return from_edges(many, list(zip(way, way[1:])) + [(1, 3)])
    if letter == "F":
        return from_edges(many, chain(many), {(2, 1): -2})
    if letter == "G":
        return from_edges(many, chain(many), {(0, 1): -3})
    return from_edges(many, chain(many))


TYPES = (
    [("A", many) for many in range(1, 9)] + [("B", many) for many in range(2, 9)]
    + [("C", many) for many in range(3, 9)] + [("D", many) for many in range(4, 9)]
    + [("E", many) for many in range(6, 9)] + [("F", 4), ("G", 2)]
)
EXPONENTS = {
    ("E", 6): (1, 4, 5, 7, 8, 11), ("E", 7): (1, 5, 7, 9, 11, 13, 17), ("E", 8): (1, 7, 11, 13, 17, 19, 23, 29),
    ("F", 4): (1, 5, 7, 11), ("G", 2): (1, 5),
}
DETERMINANTS = {("E", 6): 3, ("E", 7): 2, ("E", 8): 1, ("F", 4): 1, ("G", 2): 1}


def exponents_of_type(letter, many):
    if (letter, many) in EXPONENTS:
        return EXPONENTS[letter, many]
    if letter == "A":
        return tuple(range(1, many + 1))
    if letter == "D":
        return tuple(sorted([*range(1, 2 * many - 2, 2), many - 1]))
    return tuple(range(1, 2 * many, 2))


def determinant_of_type(letter, many):
    if (letter, many) in DETERMINANTS:
        return DETERMINANTS[letter, many]
    return {"A": many + 1, "B": 2, "C": 2, "D": 4}[letter]


def group_order(letter, many):
    return prod(exponent + 1 for exponent in exponents_of_type(letter, many))


def together(*matrices):
    """The matrices as parts, one behind the other."""
    many = sum(len(matrix) for matrix in matrices)
    rows, ahead = [], 0
    for matrix in matrices:
        for row in matrix:
            rows.append((0,) * ahead + row + (0,) * (many - ahead - len(matrix)))
        ahead += len(matrix)
    return tuple(rows)


def reordered(matrix, order):
    """The matrix whose node k is the node order[k] of this one."""
    return tuple(tuple(matrix[i][j] for j in order) for i in order)


def shuffled(many, seed):
    """Some order of so many nodes, the same for the same seed."""
    order = list(range(many))
    for k in range(many - 1, 0, -1):
        seed = (seed * 1103515245 + 12345) % 2 ** 31
        at = (seed >> 8) % (k + 1)
        order[k], order[at] = order[at], order[k]
    return tuple(order)


AFFINE = [
    SNOW, ((2, -4), (-1, 2)), ((2, -1), (-4, 2)),
    *[from_edges(many, chain(many) + [(0, many - 1)]) for many in range(3, 9)],
    # chains with double bonds at both ends, in all directions
    *[from_edges(many, chain(many), {(0, 1): a, (1, 0): b, (many - 1, many - 2): c, (many - 2, many - 1): d})
      for many in range(3, 9) for a, b in ((-1, -2), (-2, -1)) for c, d in ((-1, -2), (-2, -1))],
    # a fork at one end, a double bond or a fork at the other one
    *[from_edges(many, chain(many - 1) + [(many - 1, 1)], {(many - 3, many - 2): a, (many - 2, many - 3): b})
      for many in range(4, 9) for a, b in ((-1, -2), (-2, -1))],
    *[from_edges(many, chain(many - 2) + [(many - 2, 1), (many - 1, many - 4)]) for many in range(5, 9)],
    from_edges(7, [(0, 1), (1, 2), (0, 3), (3, 4), (0, 5), (5, 6)]),
    from_edges(8, chain(7) + [(3, 7)]),
    from_edges(5, chain(5), {(2, 3): -2}), from_edges(5, chain(5), {(3, 2): -2}),
    from_edges(3, chain(3), {(1, 2): -3}), from_edges(3, chain(3), {(2, 1): -3}),
]

HUGE = 10 ** 399 + 7

INDEFINITE = [
    WILD, ((2, -5), (-1, 2)), ((2, -1), (-5, 2)), ((2, -HUGE), (-1, 2)), ((2, -1), (-HUGE, 2)),
    from_edges(8, [(0, 1), (0, 2), (0, 3), (0, 4), (0, 5), (0, 6), (0, 7)]),
    from_edges(4, [(0, 1), (1, 2), (0, 2), (2, 3)]),
    from_edges(8, chain(7) + [(0, 6), (6, 7)]),
    from_edges(7, chain(6) + [(2, 6)], {(4, 5): -2}),
    # the nodes behind the first two come in one behind the other
    from_edges(4, [(0, 1), (0, 2), (2, 3)], {(0, 1): -5}),
    from_edges(8, [(0, 1), (0, 2), (2, 3), (3, 4), (4, 5), (5, 6), (6, 7)], {(0, 1): -5}),
    # affine ones with one node more, at both ends of the order
    from_edges(3, [], {(0, 1): -2, (1, 0): -2, (1, 2): -1, (2, 1): -1}),
    from_edges(3, [], {(0, 1): -1, (1, 0): -1, (1, 2): -2, (2, 1): -2}),
    from_edges(8, chain(8), {(0, 1): -2, (1, 0): -2}),
    from_edges(8, chain(8), {(6, 7): -2, (7, 6): -2}),
    from_edges(8, chain(8), {(3, 4): -HUGE}),
    from_edges(8, chain(8), {(k, k + 1): -HUGE - k for k in range(7)}),
    from_numbers(8, {(i, j): -HUGE - 31 * i - j for i in range(8) for j in range(8) if i != j}),
    ((2, -1, -2), (-2, 2, -1), (-1, -2, 2)),
    ((2, -1, -1), (-1, 2, -1), (-1, -2, 2)),
]


def small_matrices(many, most):
    """All Cartan matrices of so many rows with numbers from -most up."""
    places = [(i, j) for i in range(many) for j in range(i)]
    pairs = [(0, 0)] + [(-a, -b) for a in range(1, most + 1) for b in range(1, most + 1)]
    choices = [{}]
    for i, j in places:
        choices = [{**choice, (i, j): a, (j, i): b} for choice in choices for a, b in pairs]
    return [from_numbers(many, choice) for choice in choices]


def all_finite(many):
    """All finite matrices of so many rows, the nodes in all orders."""
    found = set()
    for sizes in sums_to(many):
        for matrices in all_choices(sizes):
            for order in permutations(range(many)):
                found.add(reordered(together(*matrices), order))
    return found


def sums_to(many, most=None):
    if many == 0:
        return [()]
    most = many if most is None else most
    return [(k, *rest) for k in range(min(many, most), 0, -1) for rest in sums_to(many - k, k)]


def all_choices(sizes):
    if not sizes:
        return [()]
    firsts = [of_type(letter, many) for letter, many in TYPES if many == sizes[0]]
    return [(first, *rest) for first in firsts for rest in all_choices(sizes[1:])]


def mixed_finite():
    """Finite matrices of all types and of several parts, also in other orders of the nodes."""
    found = []
    for at, (letter, many) in enumerate(TYPES):
        found.append(of_type(letter, many))
        found.append(reordered(of_type(letter, many), shuffled(many, at)))
    parts = [
        [("A", 1)] * 8, [("A", 1), ("A", 1)], [("A", 2), ("G", 2), ("B", 3)], [("F", 4), ("C", 3), ("A", 1)],
        [("D", 4), ("D", 4)], [("E", 6), ("A", 2)], [("B", 2), ("G", 2), ("A", 3), ("A", 1)], [("E", 7), ("A", 1)],
    ]
    for at, names in enumerate(parts):
        matrix = together(*[of_type(letter, many) for letter, many in names])
        found.append(matrix)
        found.append(reordered(matrix, shuffled(len(matrix), at + 100)))
    return found + [APART]


def values_at(matrix, vector):
    """The values of the simple coroots at a root vector."""
    return [sum(matrix[i][j] * vector[j] for j in range(len(matrix))) for i in range(len(matrix))]


def root_reflection(matrix, node, vector):
    value = values_at(matrix, vector)[node]
    return tuple(number - value if j == node else number for j, number in enumerate(vector))


def weight_reflection(matrix, node, weight):
    return tuple(weight[j] - weight[node] * matrix[j][node] for j in range(len(matrix)))


def all_roots(matrix):
    """What comes from simple roots by simple reflections."""
    many = len(matrix)
    left = [tuple(int(i == j) for j in range(many)) for i in range(many)]
    found = set(left)
    while left:
        root = left.pop()
        for node in range(many):
            image = root_reflection(matrix, node, root)
            if image not in found:
                found.add(image)
                left.append(image)
    return found


def form(matrix, symmetrizer, b, c):
    many = range(len(matrix))
    return sum(b[i] * symmetrizer[i] * matrix[i][j] * c[j] for i in many for j in many)
