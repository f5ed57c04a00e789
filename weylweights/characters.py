"""Irreducible representations: dimensions by Weyl's product, counts of weights by Freudenthal's sums."""

from weylweights.cartan import image_of, symmetrizer_of
from weylweights.checks import check_dominant, check_weight
from weylweights.roots import positive_coroots, positive_roots, vector_sum
from weylweights.weights import check_highest, check_small, dimension_by, images_of, led_to_dominant, taken_off


def dimension(matrix, weight):
    """The dimension of the irreducible representation of this highest weight."""
    check_small(matrix)
    check_dominant(matrix, weight)
    return dimension_by(positive_coroots(matrix), weight)


def table_of(matrix, weight):
    """The weights of the irreducible representation with their counts, ascending."""
    check_small(matrix)
    check_highest(matrix, weight)
    return tuple(sorted(counts_of(matrix, weight).items()))


def counts_of(matrix, weight):
    """The count of each weight of the irreducible representation."""
    counts = {}
    for dominant, count in dominant_counts(matrix, weight).items():
        for image in images_of(matrix, dominant):
            counts[image] = count
    return counts


def count_in(matrix, weight, other):
    """The count of the other weight in the irreducible representation; 0 for none of it."""
    check_small(matrix)
    check_highest(matrix, weight)
    check_weight(matrix, other)
    return dominant_counts(matrix, weight).get(led_to_dominant(matrix, other), 0)


def dominant_counts(matrix, weight):
    """The count of each dominant weight of the irreducible representation (Freudenthal)."""
    symmetrizer = symmetrizer_of(matrix)
    roots = positive_roots(matrix)
    lines = [(at, _form_of(symmetrizer, root), image_of(matrix, root)) for at, root in enumerate(roots)]
    taken = taken_off(matrix, weight)
    counts = {}
    known = {}
    # the higher ones first: the count of a weight is told by those of higher ones
    for place in sorted(taken, key=lambda lower: sum(taken[lower])):
        known[place] = [_sum_along(matrix, counts, known, line, place) for line in lines]
        both = [number + worth + 2 for number, worth in zip(weight, place)]
        form = _product(_form_of(symmetrizer, taken[place]), both)
        counts[place] = 1 if place == weight else 2 * sum(known[place]) // form
    return counts


def _form_of(symmetrizer, root_vector):
    """The numbers by which the form of the root vector and a weight is made of this one's."""
    return [number * other for number, other in zip(root_vector, symmetrizer)]


def _product(numbers, others):
    return sum([number * other for number, other in zip(numbers, others)])


def _sum_along(matrix, counts, known, line, start):
    """The sum over all weights behind the start, root by root, of the form of root and weight times the count."""
    at, form, step = line
    total = 0
    place = vector_sum(start, step)
    count = counts.get(led_to_dominant(matrix, place), 0)
    # the weights of a line are a row without gaps; behind a dominant one the sum is known
    while count != 0 and place not in known:
        total += _product(form, place) * count
        place = vector_sum(place, step)
        count = counts.get(led_to_dominant(matrix, place), 0)
    return total if count == 0 else total + _product(form, place) * count + known[place][at]
