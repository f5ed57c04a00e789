"""Roots of finite Cartan matrices, told by their coordinates at the simple roots."""

from weylweights.cartan import check_finite, image_of, parts_of, symmetrizer_of
from weylweights.checks import check_node, is_row
from weylweights.errors import InvalidRoot


def positive_roots(matrix):
    """The positive roots in the order of their heights, then as Python compares tuples."""
    check_finite(matrix)
    many = len(matrix)
    found = [tuple([int(i == j) for j in range(many)]) for i in range(many)]
    at = 0
    while at < len(found):
        # each positive root comes from a lower one, down to a simple one
        for higher in _reflected_upwards(matrix, found[at]):
            if higher not in found:
                found.append(higher)
        at += 1
    return tuple(sorted(found, key=lambda root: (sum(root), root)))


def _reflected_upwards(matrix, root):
    values = image_of(matrix, root)
    return [reflection_of(matrix, node, root) for node in range(len(matrix)) if values[node] < 0]


def reflection_of(matrix, node, vector):
    """What the simple reflection at the node makes of a root vector."""
    image = list(vector)
    image[node] -= sum([number * other for number, other in zip(matrix[node], vector)])
    return tuple(image)


def contrary_of(vector):
    return tuple([-number for number in vector])


def is_root(matrix, value):
    check_finite(matrix)
    return _is_root(matrix, value)


def _is_root(matrix, value):
    return is_row(value, len(matrix)) and _comes_from_simple(matrix, value)


def _comes_from_simple(matrix, vector):
    """Whether simple reflections lead the vector down to a simple root.

    A positive root that is not simple has a node at which its value is above 0; the reflection there leads to a
    lower positive root. What is no root falls below 0 at some coordinate, whatever its size, in no more steps
    than there are positive roots.
    """
    if sum(vector) < 0:
        vector = contrary_of(vector)
    while sum(vector) > 1 and min(vector) >= 0:
        vector = reflection_of(matrix, _first_above_0(image_of(matrix, vector)), vector)
    return sum(vector) == 1 and min(vector) >= 0


def _first_above_0(values):
    return min([node for node in range(len(values)) if values[node] > 0])


def check_root(matrix, root):
    if not _is_root(matrix, root):
        raise InvalidRoot(root)


def height_of(matrix, root):
    check_finite(matrix)
    check_root(matrix, root)
    return sum(root)


def reflected(matrix, node, root):
    """The root that the simple reflection at the node makes of this one."""
    check_finite(matrix)
    check_node(matrix, node)
    check_root(matrix, root)
    return reflection_of(matrix, node, root)


def _roots_by_part(matrix):
    """For each part its positive roots, in their order."""
    roots = positive_roots(matrix)
    return [[root for root in roots if any([root[node] > 0 for node in part])] for part in parts_of(matrix)]


def highest_roots(matrix):
    """For each part its root of the greatest height."""
    return tuple([roots[-1] for roots in _roots_by_part(matrix)])


def exponents_of(matrix):
    """For each part the ascending tuple of its exponents."""
    return tuple([_exponents_by_heights([sum(root) for root in roots]) for roots in _roots_by_part(matrix)])


def _exponents_by_heights(heights):
    exponents = []
    for k in range(1, max(heights) + 1):
        # from k on there are as many exponents as roots of height k
        exponents.extend([k] * (heights.count(k) - heights.count(k + 1)))
    return tuple(exponents)


def coroot_of(matrix, root):
    """The coroot, by its coordinates at the simple coroots."""
    check_finite(matrix)
    check_root(matrix, root)
    return _coroot(matrix, symmetrizer_of(matrix), root)


def _coroot(matrix, symmetrizer, root):
    # the same numbers give (b, b) and the doubled coordinates
    scaled = [number * other for number, other in zip(root, symmetrizer)]
    square = sum([number * value for number, value in zip(scaled, image_of(matrix, root))])
    return tuple([2 * number // square for number in scaled])


def positive_coroots(matrix):
    """The coroots of the positive roots, in the order of these."""
    symmetrizer = symmetrizer_of(matrix)
    return [_coroot(matrix, symmetrizer, root) for root in positive_roots(matrix)]


def value_at(matrix, root, other):
    """The value of the coroot of one root at the other one."""
    check_finite(matrix)
    check_root(matrix, root)
    check_root(matrix, other)
    return sum([number * value for number, value in zip(coroot_of(matrix, root), image_of(matrix, other))])


def string_of(matrix, root, other):
    """The pair (P, Q) of the string of one root through the other one."""
    check_finite(matrix)
    check_root(matrix, root)
    check_root(matrix, other)
    back = contrary_of(root)
    if other == root or other == back:
        raise InvalidRoot(other)
    return _steps_along(matrix, back, other), _steps_along(matrix, root, other)


def _steps_along(matrix, step, start):
    """How often the step can be added until no root comes."""
    many = 0
    place = vector_sum(start, step)
    while _comes_from_simple(matrix, place):
        many += 1
        place = vector_sum(place, step)
    return many


def vector_sum(vector, other):
    return tuple([number + more for number, more in zip(vector, other)])
