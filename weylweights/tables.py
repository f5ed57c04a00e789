"""Tables of weights with counts, and sums of irreducible characters."""

from weylweights.characters import counts_of
from weylweights.checks import is_ascending, is_row, is_whole
from weylweights.errors import InvalidSum, InvalidTable, NotAlike, TooMany
from weylweights.roots import positive_coroots, vector_sum
from weylweights.weights import check_small, dimension_by, led_to_dominant
from weylweights.weyl import first_below_0, weight_reflection

MOST_SIZE = 1000
MOST_DIMENSION_BELOW = 6000
MOST_PRODUCT = 100000


def is_table(matrix, value):
    """Whether the value is a table, of any size."""
    check_small(matrix)
    return is_table_of_rank(value, len(matrix))


def is_table_of_rank(value, rank):
    if not isinstance(value, tuple) or not all([_is_entry(entry, rank) for entry in value]):
        return False
    return is_ascending([weight for weight, _ in value])


def _is_entry(value, many):
    """Whether the value is a pair of a weight and of a whole number other than 0."""
    if not isinstance(value, tuple) or len(value) != 2:
        return False
    return is_row(value[0], many) and is_whole(value[1]) and value[1] != 0


def is_sum(matrix, value):
    """Whether the value is a sum, of any size."""
    check_small(matrix)
    return is_sum_of_rank(value, len(matrix))


def is_sum_of_rank(value, rank):
    return is_table_of_rank(value, rank) and all([min(weight) >= 0 for weight, _ in value])


def size_of_table(table):
    return sum([abs(count) for _, count in table])


def size_of_sum(matrix, total):
    return size_by(positive_coroots(matrix), total)


def size_by(coroots, total):
    """The size of the sum, by the positive coroots."""
    return sum([abs(coefficient) * dimension_by(coroots, weight) for weight, coefficient in total])


def check_table(matrix, table):
    if not is_table_of_rank(table, len(matrix)):
        raise InvalidTable(table)
    _check_size(size_of_table(table))


def check_sum(matrix, total):
    if not is_sum_of_rank(total, len(matrix)):
        raise InvalidSum(total)
    _check_size(size_of_sum(matrix, total))


def _check_size(size):
    if size > MOST_SIZE:
        raise TooMany(size)


def is_alike(matrix, table):
    """Whether the counts are the same along each orbit."""
    check_small(matrix)
    check_table(matrix, table)
    return _first_unlike(matrix, table) is None


def _first_unlike(matrix, table):
    """The first weight of the table in whose orbit some weight has another count; None."""
    counts = counts_of_pairs(table)
    # an orbit has one count throughout just if no simple reflection changes it
    unlike = {led_to_dominant(matrix, weight): True for weight, count in table
              if any([counts.get(image, 0) != count for image in _neighbours(matrix, weight)])}
    for weight, _ in table:
        if led_to_dominant(matrix, weight) in unlike:
            return weight
    return None


def _neighbours(matrix, weight):
    return [weight_reflection(matrix, node, weight) for node in range(len(matrix))]


def unlike_at(matrix, table):
    """A weight of the table and a node by whose reflection it comes to another count; None."""
    counts = counts_of_pairs(table)
    for weight, count in table:
        for node, image in enumerate(_neighbours(matrix, weight)):
            if counts.get(image, 0) != count:
                return weight, node
    return None


def counts_of_pairs(pairs):
    return {weight: count for weight, count in pairs}


def pairs_of_counts(counts):
    """The ascending tuple of the weights with counts other than 0."""
    return tuple(sorted([(weight, count) for weight, count in counts.items() if count != 0]))


def table_of_sum(matrix, total):
    """The table of the sum: its coefficients times the tables of the irreducible ones."""
    check_small(matrix)
    check_sum(matrix, total)
    return pairs_of_counts(counts_of_sum(matrix, total))


def counts_of_sum(matrix, total):
    """The counts of the table of the sum; some may be 0."""
    counts = {}
    for weight, coefficient in total:
        for place, count in counts_of(matrix, weight).items():
            counts[place] = counts.get(place, 0) + coefficient * count
    return counts


def sum_of(matrix, table):
    """The one sum that has this table."""
    check_small(matrix)
    check_table(matrix, table)
    unlike = _first_unlike(matrix, table)
    if unlike is not None:
        raise NotAlike(unlike)
    check_dimensions_below(matrix, table)
    return sum_of_counts(matrix, counts_of_pairs(table))


def check_dimensions_below(matrix, table):
    """No dominant weight of the table may be the highest one of too great a representation."""
    coroots = positive_coroots(matrix)
    greatest = max([dimension_by(coroots, weight) for weight, _ in table if min(weight) >= 0], default=0)
    if greatest > MOST_DIMENSION_BELOW:
        raise TooMany(greatest)


def sum_of_counts(matrix, counts):
    """The sum of a table alike under the Weyl group, told by its counts."""
    # the product with the trivial representation
    return pairs_of_counts(product_by_reflections(matrix, (0,) * len(matrix), counts))


def product_by_reflections(matrix, weight, counts):
    """The coefficients of the product of an irreducible one and of the sum of these counts (Brauer, Klimyk)."""
    coefficients = {}
    for other, count in counts.items():
        place, sign = _led_with_sign(matrix, tuple([number + more + 1 for number, more in zip(weight, other)]))
        if min(place) > 0:
            highest = tuple([number - 1 for number in place])
            coefficients[highest] = coefficients.get(highest, 0) + sign * count
    return coefficients


def _led_with_sign(matrix, weight):
    """The dominant weight of the orbit, and the sign of an element that leads to it."""
    sign = 1
    while min(weight) < 0:
        weight = weight_reflection(matrix, first_below_0(weight), weight)
        sign = -sign
    return weight, sign


def lacking(matrix, table):
    """The least weight with a coefficient below 0 in the sum of the table; None if there is none."""
    for weight, coefficient in sum_of(matrix, table):
        if coefficient < 0:
            return weight
    return None


def table_plus(matrix, table, other):
    """The table of the counts of both, added."""
    check_small(matrix)
    check_table(matrix, table)
    check_table(matrix, other)
    return pairs_of_counts(counts_plus(counts_of_pairs(table), counts_of_pairs(other)))


def counts_plus(counts, others):
    total = {weight: count for weight, count in counts.items()}
    for weight, count in others.items():
        total[weight] = total.get(weight, 0) + count
    return total


def table_times(matrix, table, other):
    """The table of the products: weights added, counts multiplied."""
    check_small(matrix)
    check_table(matrix, table)
    check_table(matrix, other)
    size = size_of_table(table) * size_of_table(other)
    if size > MOST_PRODUCT:
        raise TooMany(size)
    return pairs_of_counts(counts_times(counts_of_pairs(table), counts_of_pairs(other)))


def counts_times(counts, others):
    made = {}
    for weight, count in counts.items():
        for other, times in others.items():
            place = vector_sum(weight, other)
            made[place] = made.get(place, 0) + count * times
    return made
