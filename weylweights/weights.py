"""Weights of finite matrices of up to 4 rows: the dominance order, orbits and dominant weights."""

from math import gcd

from weylweights.cartan import check_finite, cofactors, determinant_of, image_of, is_finite, is_matrix
from weylweights.checks import check_dominant, check_weight, is_row
from weylweights.errors import TooMany
from weylweights.roots import positive_coroots, positive_roots, vector_sum
from weylweights.weyl import first_below_0, weight_reflection

MOST_ROWS = 4
MOST_DIMENSION = 1000


def is_small(value):
    """Whether the value is a finite matrix of up to 4 rows."""
    return is_matrix(value) and len(value) <= MOST_ROWS and is_finite(value)


def check_small(matrix):
    """The matrix has to be a finite one of up to 4 rows."""
    check_finite(matrix)
    if len(matrix) > MOST_ROWS:
        raise TooMany(len(matrix))


def check_highest(matrix, weight):
    """The weight has to be the highest one of a representation of a dimension of up to 1000."""
    check_dominant(matrix, weight)
    number = dimension_by(positive_coroots(matrix), weight)
    if number > MOST_DIMENSION:
        raise TooMany(number)


def dimension_by(coroots, weight):
    """The dimension of the irreducible representation of this highest weight, by the positive coroots."""
    above = 1
    below = 1
    for coroot in coroots:
        # the coroot at the weight plus rho, and at rho
        above = above * sum([number * (worth + 1) for number, worth in zip(coroot, weight)])
        below = below * sum(coroot)
    return above // below


def is_weight(matrix, value):
    check_small(matrix)
    return is_row(value, len(matrix))


def root_coordinates(matrix, weight):
    """The fractions by which the simple roots make the weight."""
    check_small(matrix)
    check_weight(matrix, weight)
    return tuple(_coordinates(matrix, weight))


def _coordinates(matrix, weight):
    determinant = determinant_of(matrix)
    rows = [cofactors(matrix, row) for row in range(len(matrix))]
    sums = [sum([number * worth for number, worth in zip(column, weight)]) for column in zip(*rows)]
    return [fraction_of(number, determinant) for number in sums]


def fraction_of(number, divisor):
    """The fraction in lowest terms; the divisor is above 0."""
    common = gcd(number, divisor)
    return number // common, divisor // common


def is_below(matrix, weight, other):
    """Whether the weight is below the other one, or it."""
    check_small(matrix)
    check_weight(matrix, weight)
    check_weight(matrix, other)
    less = [number - worth for number, worth in zip(other, weight)]
    return all([number >= 0 and divisor == 1 for number, divisor in _coordinates(matrix, less)])


def dominant_of(matrix, weight):
    """The dominant weight of the orbit."""
    check_small(matrix)
    check_weight(matrix, weight)
    return led_to_dominant(matrix, weight)


def led_to_dominant(matrix, weight):
    while min(weight) < 0:
        weight = weight_reflection(matrix, first_below_0(weight), weight)
    return weight


def orbit(matrix, weight):
    """All weights that the Weyl group leads this one to, ascending."""
    check_small(matrix)
    check_weight(matrix, weight)
    return tuple(sorted(images_of(matrix, weight)))


def images_of(matrix, weight):
    """The weights of the orbit, each once."""
    found = {weight: True}
    waiting = [weight]
    at = 0
    while at < len(waiting):
        for node in range(len(matrix)):
            image = weight_reflection(matrix, node, waiting[at])
            if image not in found:
                found[image] = True
                waiting.append(image)
        at += 1
    return waiting


def dominant_below(matrix, weight):
    """All dominant weights below this one, and it, ascending."""
    check_small(matrix)
    check_highest(matrix, weight)
    return tuple(sorted(taken_off(matrix, weight)))


def taken_off(matrix, weight):
    """For each dominant weight below this one, and it, the root vector that is taken off to come to it."""
    # taking off positive roots through dominant weights alone comes to all of them (Stembridge)
    steps = [(root, image_of(matrix, root)) for root in positive_roots(matrix)]
    found = {weight: (0,) * len(matrix)}
    waiting = [weight]
    at = 0
    while at < len(waiting):
        for root, step in steps:
            lower = tuple([number - less for number, less in zip(waiting[at], step)])
            if min(lower) >= 0 and lower not in found:
                found[lower] = vector_sum(found[waiting[at]], root)
                waiting.append(lower)
        at += 1
    return found
