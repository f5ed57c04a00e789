"""Cartan matrices: their parts, the kinds of these, and the vectors and numbers that go with them."""

from math import gcd

from weylweights.checks import check_vector, is_row
from weylweights.errors import InvalidMatrix, NotFinite

MOST_ROWS = 8
FINITE = "finite"
AFFINE = "affine"
INDEFINITE = "indefinite"


def is_matrix(value):
    """Whether the value is a Cartan matrix of 1 to 8 rows."""
    if not isinstance(value, tuple) or not 1 <= len(value) <= MOST_ROWS:
        return False
    many = len(value)
    if not all([is_row(row, many) for row in value]):
        return False
    return all([_may_stand(value, i, j) for i in range(many) for j in range(many)])


def _may_stand(rows, i, j):
    if i == j:
        return rows[i][j] == 2
    return rows[i][j] <= 0 and (rows[i][j] == 0) == (rows[j][i] == 0)


def check_matrix(matrix):
    if not is_matrix(matrix):
        raise InvalidMatrix(matrix)


def is_finite(matrix):
    """Whether all parts of the Cartan matrix are finite."""
    return all([kind == FINITE for kind in kinds_of(matrix)])


def check_finite(matrix):
    check_matrix(matrix)
    if not is_finite(matrix):
        raise NotFinite()


def parts_of(matrix):
    """The connected parts: ascending tuples of nodes, told ascending."""
    check_matrix(matrix)
    parts = []
    for node in range(len(matrix)):
        if not any([node in part for part in parts]):
            parts.append(_part_around(matrix, node))
    return tuple(parts)


def _part_around(matrix, node):
    part = [node]
    at = 0
    while at < len(part):
        for other in range(len(matrix)):
            if matrix[part[at]][other] != 0 and other not in part:
                part.append(other)
        at += 1
    return tuple(sorted(part))


def block_of(rows, nodes):
    """The rows and columns of these nodes alone."""
    return [[rows[i][j] for j in nodes] for i in nodes]


def _blocks(matrix):
    """The pairs of a part and of its block."""
    return [(part, block_of(matrix, part)) for part in parts_of(matrix)]


def kinds_of(matrix):
    """For each part "finite", "affine" or "indefinite"."""
    check_matrix(matrix)
    return tuple([_kind(block) for _, block in _blocks(matrix)])


def _kind(block):
    # numbers up to 0 off the diagonal: finite is the same as all leading minors above 0;
    # affine, the part being connected, as all above 0 but the last one, which is 0
    many = _sound_rows(block)
    if many == len(block):
        return FINITE
    if many == len(block) - 1 and _determinant(block) == 0:
        return AFFINE
    return INDEFINITE


def _sound_rows(block):
    """How many leading minors are above 0 ahead of the first one that is not."""
    many = 0
    while many < len(block) and _determinant(_leading(block, many + 1)) > 0:
        many += 1
    return many


def _leading(block, many):
    return [row[:many] for row in block[:many]]


def shown_by(matrix):
    """A vector above 0 that shows the kind of each part."""
    check_matrix(matrix)
    shown = [0] * len(matrix)
    for part, block in _blocks(matrix):
        for node, number in zip(part, _without_divisor(_shown_by_block(block))):
            shown[node] = number
    return tuple(shown)


def _shown_by_block(block):
    kind = _kind(block)
    if kind == FINITE:
        # the adjugate leads this to the determinant in all rows
        rows = [cofactors(block, row) for row in range(len(block))]
        return [sum(column) for column in zip(*rows)]
    if kind == AFFINE:
        return cofactors(block, len(block) - 1)
    many = _sound_rows(block) + 1
    start = cofactors(_leading(block, many), many - 1) + [0] * (len(block) - many)
    return _spread_below(block, _without_divisor(start))


def _spread_below(block, vector):
    """A vector above 0 that the block leads below 0 in all rows.

    The vector passed has numbers from 0 on; the block leads it below 0 in some rows and to 0 in the others.
    """
    image = image_of(block, vector)
    while max(image) >= 0 or min(vector) <= 0:
        # three times a number below 0 stays below 0 with the 2 of the diagonal added,
        # and the rows joined to such a one come below 0, too
        vector = [3 * number + 1 if worth < 0 else 3 * number for number, worth in zip(vector, image)]
        image = image_of(block, vector)
    return vector


def _without_divisor(numbers):
    divisor = 0
    for number in numbers:
        divisor = gcd(divisor, number)
    return [number // divisor for number in numbers]


def times_vector(matrix, vector):
    """The vector that the matrix makes of this one."""
    check_matrix(matrix)
    check_vector(matrix, vector)
    return tuple(image_of(matrix, vector))


def image_of(rows, vector):
    """The rows times the vector, as a list."""
    return [sum([number * other for number, other in zip(row, vector)]) for row in rows]


def symmetrizer_of(matrix):
    """The tuple of numbers above 0 that make the rows symmetric; None if there is none."""
    check_matrix(matrix)
    numbers = [0] * len(matrix)
    for part, block in _blocks(matrix):
        for node, candidate in zip(part, _only_candidate(block)):
            numbers[node] = candidate
    scaled = [[number * other for other in row] for number, row in zip(numbers, matrix)]
    return tuple(numbers) if _is_symmetric(scaled) else None


def _only_candidate(block):
    """The numbers for one part that the ways from its first node to the others ask for."""
    numbers = [1] + [0] * (len(block) - 1)
    reached = [0]
    at = 0
    while at < len(reached):
        node = reached[at]
        for other in range(len(block)):
            if block[node][other] != 0 and numbers[other] == 0:
                behind = -block[node][other] * numbers[node]
                numbers = [-block[other][node] * number for number in numbers]
                numbers[other] = behind
                numbers = _without_divisor(numbers)
                reached.append(other)
        at += 1
    return numbers


def _is_symmetric(rows):
    many = len(rows)
    return all([rows[i][j] == rows[j][i] for i in range(many) for j in range(i)])


def determinant_of(matrix):
    check_matrix(matrix)
    return _determinant(matrix)


def _determinant(rows):
    """By Bareiss: each division leaves nothing over, so that all numbers stay whole."""
    left = [list(row) for row in rows]
    sign = 1
    ahead = 1
    for k in range(len(left)):
        at = _first_other_than_0(left, k)
        if at is None:
            return 0
        if at != k:
            left[k], left[at] = left[at], left[k]
            sign = -sign
        for i in range(k + 1, len(left)):
            left[i] = _eliminated(left[k], left[i], k, ahead)
        ahead = left[k][k]
    return sign * ahead


def _first_other_than_0(rows, k):
    """The first row from k on with another number than 0 in column k; None."""
    for i in range(k, len(rows)):
        if rows[i][k] != 0:
            return i
    return None


def _eliminated(pivot_row, row, k, ahead):
    return [(pivot_row[k] * number - row[k] * other) // ahead for number, other in zip(row, pivot_row)]


def cofactors(rows, i):
    """The cofactors at the places of row i: these rows lead them to the determinant in row i and to 0 elsewhere."""
    others = [row for at, row in enumerate(rows) if at != i]
    cofactors = []
    for j in range(len(rows)):
        minor = _determinant([row[:j] + row[j + 1:] for row in others])
        cofactors.append(minor if (i + j) % 2 == 0 else -minor)
    return cofactors
