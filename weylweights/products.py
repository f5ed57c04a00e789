"""What is made of representations: products, duals, Adams operations, powers; the indicator."""

from math import comb

from weylweights.checks import check_count, check_dominant
from weylweights.errors import TooMany
from weylweights.roots import positive_coroots
from weylweights.tables import (
    check_dimensions_below, check_sum, counts_of_sum, counts_plus, counts_times, pairs_of_counts,
    product_by_reflections, size_of_sum, sum_of_counts,
)
from weylweights.weights import check_small, led_to_dominant

MOST_ADAMS = 20
MOST_POWER = 6
MOST_WAYS = 4000


def product(matrix, total, other):
    """The sum whose table is the product of both tables."""
    check_small(matrix)
    check_sum(matrix, total)
    check_sum(matrix, other)
    counts = counts_of_sum(matrix, other)
    coefficients = {}
    for weight, times in total:
        for place, count in product_by_reflections(matrix, weight, counts).items():
            coefficients[place] = coefficients.get(place, 0) + times * count
    return pairs_of_counts(coefficients)


def dual(matrix, total):
    """The sum whose table has all weights with the other sign."""
    check_small(matrix)
    check_sum(matrix, total)
    return tuple(sorted([(_dual_weight(matrix, weight), coefficient) for weight, coefficient in total]))


def _dual_weight(matrix, weight):
    # - w L, w the longest element, is the dominant weight in the orbit of - L
    return led_to_dominant(matrix, tuple([-number for number in weight]))


def adams(matrix, total, count):
    """The sum of the table with all weights taken so many times."""
    check_small(matrix)
    check_sum(matrix, total)
    check_count(count, 1, MOST_ADAMS)
    counts = _weights_times(counts_of_sum(matrix, total), count)
    check_dimensions_below(matrix, pairs_of_counts(counts))
    return sum_of_counts(matrix, counts)


def _weights_times(counts, times):
    return {tuple([times * number for number in weight]): count for weight, count in counts.items()}


def symmetric_power(matrix, total, count):
    """The symmetric power of the sum."""
    check_small(matrix)
    check_sum(matrix, total)
    check_count(count, 0, MOST_POWER)
    size = size_of_sum(matrix, total)
    # to take nothing there is one way, out of nothing, too
    _check_ways(1 if count == 0 else comb(size + count - 1, count))
    return sum_of_counts(matrix, _power_counts(matrix, total, count, 1))


def exterior_power(matrix, total, count):
    """The exterior power of the sum."""
    check_small(matrix)
    check_sum(matrix, total)
    check_count(count, 0, MOST_POWER)
    _check_ways(comb(size_of_sum(matrix, total), count))
    return sum_of_counts(matrix, _power_counts(matrix, total, count, -1))


def _check_ways(ways):
    if ways > MOST_WAYS:
        raise TooMany(ways)


def _power_counts(matrix, total, most, turn):
    """The counts of the power by Newton's sums; the signs turn for exterior powers."""
    counts = counts_of_sum(matrix, total)
    powers = [{(0,) * len(matrix): 1}]
    for n in range(1, most + 1):
        gathered = {}
        sign = 1
        for k in range(1, n + 1):
            term = counts_times(_weights_times(counts, k), powers[n - k])
            gathered = counts_plus(gathered, {weight: sign * count for weight, count in term.items()})
            sign = sign * turn
        powers.append({weight: count // n for weight, count in gathered.items()})
    return powers[most]


def indicator(matrix, weight):
    """1 or -1, as the irreducible representation has a symmetric or an alternating form; 0 if it is not its dual."""
    check_small(matrix)
    check_dominant(matrix, weight)
    if _dual_weight(matrix, weight) != weight:
        return 0
    coroots = positive_coroots(matrix)
    total = sum([number * worth for coroot in coroots for number, worth in zip(coroot, weight)])
    return 1 if total % 2 == 0 else -1
