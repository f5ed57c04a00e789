"""Slow plain ways to reckon with weights, tables and paths, straight from the document's words."""

from fractions import Fraction
from functools import lru_cache
from itertools import product

from tests import matrices
from tests.matrices import from_edges, reordered, shuffled, together, weight_reflection

A_ONE = ((2,),)
A_TWO = matrices.TWO
B_TWO = matrices.B_TWO
G_TWO = matrices.G_TWO
A_PAIR = together(A_ONE, A_ONE)
FOUR_ONES = together(A_ONE, A_ONE, A_ONE, A_ONE)


def kinds_of_four():
    """The finite matrices of 4 rows: all types, each in two orders of the nodes."""
    found = []
    for sizes in matrices.sums_to(4):
        for at, parts in enumerate(matrices.all_choices(sizes)):
            matrix = together(*parts)
            found.append(matrix)
            found.append(reordered(matrix, shuffled(4, at + 3)))
    return found


UP_TO_THREE = sorted(matrix for many in (1, 2, 3) for matrix in matrices.all_finite(many))
FOUR = kinds_of_four()
ALL_SMALL = UP_TO_THREE + FOUR
# one order of the nodes that is not the usual one for each kind of up to 3 nodes, and what is larger
SOME = [
    A_ONE, A_TWO, B_TWO, reordered(B_TWO, (1, 0)), G_TWO, reordered(G_TWO, (1, 0)), A_PAIR,
    *[reordered(matrices.of_type(letter, 3), (1, 2, 0)) for letter in "ABC"],
    reordered(together(G_TWO, A_ONE), (0, 2, 1)), reordered(together(B_TWO, A_ONE), (2, 0, 1)),
]
SOME_OF_FOUR = [reordered(matrices.of_type(*name), shuffled(4, 9)) for name in (("A", 4), ("B", 4), ("D", 4), ("F", 4))]


def dot(numbers, others):
    return sum(a * b for a, b in zip(numbers, others, strict=True))


def added(weight, other, times=1):
    return tuple(a + times * b for a, b in zip(weight, other, strict=True))


def rho(matrix):
    return (1,) * len(matrix)


def zero(matrix):
    return (0,) * len(matrix)


def unit(matrix, node):
    return tuple(int(i == node) for i in range(len(matrix)))


def simple_root(matrix, node):
    return tuple(row[node] for row in matrix)


@lru_cache(None)
def symmetrizer(matrix):
    """Numbers d with d_i a_ij = d_j a_ji, found by trying."""
    for numbers in product((1, 2, 3), repeat=len(matrix)):
        if all(numbers[i] * matrix[i][j] == numbers[j] * matrix[j][i]
               for i in range(len(matrix)) for j in range(len(matrix))):
            return numbers
    raise AssertionError(matrix)


@lru_cache(None)
def positive_roots(matrix):
    return tuple(root for root in matrices.all_roots(matrix) if min(root) >= 0)


@lru_cache(None)
def dimension(matrix, weight):
    """Weyl's product, by forms."""
    d = symmetrizer(matrix)
    number = Fraction(1)
    for root in positive_roots(matrix):
        scaled = [b * e for b, e in zip(root, d)]
        number *= Fraction(dot(scaled, added(weight, rho(matrix))), sum(scaled))
    assert number.denominator == 1
    return number.numerator


@lru_cache(None)
def highest_weights(matrix, most):
    """All dominant weights of dimensions up to the number, the least ones first."""
    found, left = [], [zero(matrix)]
    while left:
        weight = left.pop(0)
        if weight not in found and dimension(matrix, weight) <= most:
            found.append(weight)
            left.extend(added(weight, unit(matrix, node)) for node in range(len(matrix)))
    return tuple(found)


def orbit(matrix, weight):
    found, left = {weight}, [weight]
    while left:
        place = left.pop()
        for node in range(len(matrix)):
            image = weight_reflection(matrix, node, place)
            if image not in found:
                found.add(image)
                left.append(image)
    return found


def signed_orbit(matrix, weight):
    """The alternating sum over the orbit of a weight that no reflection leaves as it is."""
    found, left = {weight: 1}, [weight]
    while left:
        place = left.pop()
        for node in range(len(matrix)):
            image = weight_reflection(matrix, node, place)
            if image not in found:
                found[image] = -found[place]
                left.append(image)
    return found


def times(counts, others):
    made = {}
    for weight, count in dict(counts).items():
        for other, number in dict(others).items():
            place = added(weight, other)
            made[place] = made.get(place, 0) + count * number
    return {place: count for place, count in made.items() if count}


def plus(*tables):
    made = {}
    for factor, table in tables:
        for weight, count in dict(table).items():
            made[weight] = made.get(weight, 0) + factor * count
    return {place: count for place, count in made.items() if count}


def pairs(counts):
    return tuple(sorted((weight, count) for weight, count in dict(counts).items() if count))


def sum_by_heads(matrix, counts, table_of):
    """The sum of a table, the greatest dominant weights taken off with their tables one by one."""
    found, d = {}, symmetrizer(matrix)
    while counts:
        # the one of the greatest form with rho is below no other one
        head = max([weight for weight in counts if min(weight) >= 0], key=lambda weight: _level(matrix, d, weight))
        found[head] = counts[head]
        counts = plus((1, counts), (-counts[head], table_of(matrix, head)))
    return pairs(found)


def _level(matrix, d, weight):
    return sum(dot([b * e for b, e in zip(root, d)], weight) for root in positive_roots(matrix))


# paths


def fraction(pair):
    return Fraction(*pair)


def heights(path, node):
    """The pairs of a time and of the height at it, at the start and behind each step."""
    found = [(Fraction(0), Fraction(0))]
    for weight, length in path:
        time, height = found[-1]
        found.append((time + fraction(length), height + weight[node] * fraction(length)))
    return found


def least(path, node):
    return min(height for _, height in heights(path, node))


def height_at(path, node, time):
    bends = heights(path, node)
    for (start, low), (end, high) in zip(bends, bends[1:]):
        if start <= time <= end:
            return low + (high - low) * (time - start) / (end - start)
    raise AssertionError(time)


def times_at(path, node, level):
    """The times at which the height is the level, of a rest at it the start and the end."""
    found = []
    bends = heights(path, node)
    for (start, low), (end, high) in zip(bends, bends[1:]):
        if low == high == level:
            found.extend((start, end))
        elif low != high and min(low, high) <= level <= max(low, high):
            found.append(start + (end - start) * (level - low) / (high - low))
    return found


def turned_between(matrix, path, node, first, last):
    """The path with all weights between the two times taken by the simple reflection."""
    cuts = sorted({first, last, *[time for time, _ in heights(path, node)]})
    steps = []
    for start, end in zip(cuts, cuts[1:]):
        time, weight = Fraction(0), None
        for each, length in path:
            if time <= start and end <= time + fraction(length):
                weight = each
            time += fraction(length)
        if first <= start and end <= last:
            weight = weight_reflection(matrix, node, weight)
        if steps and steps[-1][0] == weight:
            steps[-1][1] += end - start
        else:
            steps.append([weight, end - start])
    return tuple((weight, (length.numerator, length.denominator)) for weight, length in steps)


def lowered(matrix, path, node):
    m = least(path, node)
    if height_at(path, node, Fraction(1)) < m + 1:
        return None
    a = max(times_at(path, node, m))
    b = min(time for time in times_at(path, node, m + 1) if time > a)
    return turned_between(matrix, path, node, a, b)


def raised(matrix, path, node):
    m = least(path, node)
    if m > -1:
        return None
    b = min(times_at(path, node, m))
    a = max(time for time in times_at(path, node, m + 1) if time < b)
    return turned_between(matrix, path, node, a, b)


def crystal(matrix, weight):
    """The set of all paths that come of the straight one by lowering."""
    start = ((weight, (1, 1)),)
    found, left = {start}, [start]
    while left:
        path = left.pop()
        for node in range(len(matrix)):
            lower = lowered(matrix, path, node)
            if lower is not None and lower not in found:
                found.add(lower)
                left.append(lower)
    return found


def in_order(paths):
    return tuple(sorted(paths, key=lambda path: (tuple(weight for weight, _ in path),
                                                 tuple(length for _, length in path))))


def end(path):
    place = [sum(weight[node] * fraction(length) for weight, length in path) for node in range(len(path[0][0]))]
    assert all(number.denominator == 1 for number in place)
    return tuple(number.numerator for number in place)


def operated(matrix, node, counts):
    """Demazure's operator, term by term."""
    step = simple_root(matrix, node)
    made = {}
    for weight, count in counts.items():
        n = weight[node]
        places = [(k, 1) for k in range(0, -n - 1, -1)] if n >= 0 else [(k, -1) for k in range(1, -n)]
        for k, sign in places:
            place = added(weight, step, k)
            made[place] = made.get(place, 0) + sign * count
    return {place: count for place, count in made.items() if count}


def demazure(matrix, weight, word):
    counts = {weight: 1}
    for node in reversed(word):
        counts = operated(matrix, node, counts)
    return pairs(counts)


def demazure_paths(matrix, weight, word):
    found = {((weight, (1, 1)),)}
    for node in reversed(word):
        for path in list(found):
            while path is not None:
                found.add(path)
                path = lowered(matrix, path, node)
    return in_order(found)


def words_of_elements(matrix, longest):
    """For each element the image of rho, and all its words of up to so many nodes."""
    found = {}
    for many in range(longest + 1):
        for word in product(range(len(matrix)), repeat=many):
            image = rho(matrix)
            for node in reversed(word):
                image = weight_reflection(matrix, node, image)
            found.setdefault(image, []).append(word)
    return found


def five_rows():
    """Finite matrices of more than 4 rows, and one that is not finite."""
    return [matrices.of_type("A", 5), matrices.of_type("E", 8), together(*[A_ONE] * 6)]


FIVE_NOT_FINITE = from_edges(5, [(0, 1), (1, 2), (2, 3), (3, 4), (4, 0)])
