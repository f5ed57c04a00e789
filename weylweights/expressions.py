"""Representations told by EXPRESSIONs: their forms, sizes, characters and decompositions.

An EXPRESSION is a tree whose leaves have no parts. In a book ("named", ENTRY) is a leaf, too: the sums of the entries
are passed along for it, as a dict by their names, which is empty elsewhere.
"""

from weylweights.cartan import image_of
from weylweights.characters import counts_of
from weylweights.checks import is_row, is_whole
from weylweights.errors import InvalidExpression, TooMany
from weylweights.roots import contrary_of, positive_coroots, positive_roots
from weylweights.tables import (
    MOST_SIZE, counts_of_pairs, counts_of_sum, counts_plus, counts_times, pairs_of_counts, size_by, sum_of_counts,
)
from weylweights.weights import check_small, dimension_by

DEEPEST = 6
MOST_TIMES = 100
# how many elements there are, and behind which of them the parts stand
LENGTHS = {
    "irreducible": 2, "trivial": 1, "adjoint": 1, "named": 2, "sum": 3, "less": 3, "product": 3, "times": 3, "dual": 2,
    "symmetric square": 2, "exterior square": 2,
}
AHEAD_OF_PARTS = {
    "sum": 1, "less": 1, "product": 1, "times": 2, "dual": 1, "symmetric square": 1, "exterior square": 1,
}


def parts_in(tree):
    """The trees of which this one is made; none for a leaf."""
    return tree[AHEAD_OF_PARTS[tree[0]]:] if tree[0] in AHEAD_OF_PARTS else ()


def depth_of(tree):
    return 1 + max([depth_of(part) for part in parts_in(tree)], default=0)


def leaves_in(tree):
    """The leaves, as often as they stand in the tree."""
    if tree[0] not in AHEAD_OF_PARTS:
        return [tree]
    return [leaf for part in parts_in(tree) for leaf in leaves_in(part)]


def is_tree(value, rank, sums):
    """Whether the value is an EXPRESSION for a matrix of this rank, of any size."""
    return _is_tree_up_to(DEEPEST, value, rank, sums)


def _is_tree_up_to(deepest, value, rank, sums):
    if deepest == 0 or not isinstance(value, tuple) or len(value) == 0 or not isinstance(value[0], str):
        return False
    if value[0] not in LENGTHS or len(value) != LENGTHS[value[0]]:
        return False
    if value[0] not in AHEAD_OF_PARTS:
        return _is_leaf(value, rank, sums)
    if value[0] == "times" and not (is_whole(value[1]) and 0 <= value[1] <= MOST_TIMES):
        return False
    return all([_is_tree_up_to(deepest - 1, part, rank, sums) for part in parts_in(value)])


def _is_leaf(value, rank, sums):
    """Whether the value, of the word and the length of a leaf, is one."""
    if value[0] == "irreducible":
        return is_row(value[1], rank) and min(value[1]) >= 0
    if value[0] == "named":
        return isinstance(value[1], str) and value[1] in sums
    return True


def size_of_tree(coroots, tree, sums):
    """The size, by the positive coroots of the matrix."""
    if tree[0] not in AHEAD_OF_PARTS:
        return _size_of_leaf(coroots, tree, sums)
    sizes = [size_of_tree(coroots, part, sums) for part in parts_in(tree)]
    if tree[0] == "product":
        return sizes[0] * sizes[1]
    if tree[0] == "times":
        return max(1, tree[1]) * sizes[0]
    if tree[0] in ("symmetric square", "exterior square"):
        return sizes[0] * (sizes[0] + 1) // 2
    return sum(sizes)


def _size_of_leaf(coroots, leaf, sums):
    if leaf[0] == "irreducible":
        return dimension_by(coroots, leaf[1])
    if leaf[0] == "named":
        return max(1, size_by(coroots, sums[leaf[1]]))
    # of the adjoint one the roots, and as often 0 as there are nodes
    return 2 * len(coroots) + len(coroots[0]) if leaf[0] == "adjoint" else 1


def counts_of_tree(matrix, tree, sums):
    """The counts of the character; some may be 0."""
    return counts_by_leaves(tree, {leaf: _counts_of_leaf(matrix, leaf, sums) for leaf in leaves_in(tree)})


def _counts_of_leaf(matrix, leaf, sums):
    if leaf[0] == "irreducible":
        return counts_of(matrix, leaf[1])
    if leaf[0] == "named":
        return counts_of_sum(matrix, sums[leaf[1]])
    return counts_by_roots(matrix, leaf)


def counts_by_roots(matrix, leaf):
    """The counts of the trivial or of the adjoint one."""
    zero = (0,) * len(matrix)
    if leaf[0] == "trivial":
        return {zero: 1}
    counts = {zero: len(matrix)}
    for root in positive_roots(matrix):
        weight = tuple(image_of(matrix, root))
        counts[weight] = 1
        counts[contrary_of(weight)] = 1
    return counts


def counts_by_leaves(tree, leaves):
    """The counts of the character, made of those of the leaves, told by a dict."""
    if tree[0] not in AHEAD_OF_PARTS:
        return leaves[tree]
    counts = [counts_by_leaves(part, leaves) for part in parts_in(tree)]
    if tree[0] == "sum":
        return counts_plus(counts[0], counts[1])
    if tree[0] == "less":
        return counts_plus(counts[0], _multiplied(-1, counts[1]))
    if tree[0] == "product":
        return counts_times(counts[0], counts[1])
    if tree[0] == "times":
        return _multiplied(tree[1], counts[0])
    if tree[0] == "dual":
        return {contrary_of(weight): count for weight, count in counts[0].items()}
    return _square(counts[0], 1 if tree[0] == "symmetric square" else -1)


def _multiplied(times, counts):
    return {weight: times * count for weight, count in counts.items()}


def _square(counts, sign):
    """The counts of the symmetric square (sign 1) or of the exterior square (sign -1)."""
    doubles = {tuple([2 * number for number in weight]): sign * count for weight, count in counts.items()}
    both = counts_plus(counts_times(counts, counts), doubles)
    return {weight: count // 2 for weight, count in both.items()}


def sum_of_tree(matrix, tree, sums):
    """The decomposition."""
    return sum_of_counts(matrix, counts_of_tree(matrix, tree, sums))


def coefficient_at(total, weight):
    coefficients = counts_of_pairs(total)
    return coefficients.get(weight, 0)


def is_of_representation(total):
    return all([coefficient >= 0 for _, coefficient in total])


def contains_sum(total, other):
    """Whether no coefficient of the other sum is above that of this one."""
    coefficients = counts_of_pairs(total)
    others = counts_of_pairs(other)
    return all([others.get(weight, 0) <= coefficients.get(weight, 0) for weight, _ in total + other])


def homs_of_sums(total, other):
    others = counts_of_pairs(other)
    return sum([coefficient * others.get(weight, 0) for weight, coefficient in total])


def check_expression(matrix, expression):
    _check_form(matrix, expression)
    check_tree_size(matrix, expression, {})


def _check_form(matrix, expression):
    if not is_tree(expression, len(matrix), {}):
        raise InvalidExpression(expression)


def check_tree_size(matrix, tree, sums):
    size = size_of_tree(positive_coroots(matrix), tree, sums)
    if size > MOST_SIZE:
        raise TooMany(size)


def is_expression(matrix, value):
    """Whether the value is an EXPRESSION of a size of up to 1000."""
    check_small(matrix)
    return is_tree_that_fits(matrix, value, {})


def is_tree_that_fits(matrix, value, sums):
    """Whether the value is an EXPRESSION of a size of up to 1000, in which the names of the sums may stand."""
    return is_tree(value, len(matrix), sums) and size_of_tree(positive_coroots(matrix), value, sums) <= MOST_SIZE


def size_of(matrix, expression):
    """The size of the EXPRESSION, also if it is too great."""
    check_small(matrix)
    _check_form(matrix, expression)
    return size_of_tree(positive_coroots(matrix), expression, {})


def character(matrix, expression):
    """The table of the EXPRESSION."""
    check_small(matrix)
    check_expression(matrix, expression)
    return pairs_of_counts(counts_of_tree(matrix, expression, {}))


def decomposition(matrix, expression):
    """The sum of the EXPRESSION."""
    check_small(matrix)
    check_expression(matrix, expression)
    return sum_of_tree(matrix, expression, {})


def dimension_of(matrix, expression):
    """The sum of all multiplicities."""
    return sum([count for _, count in character(matrix, expression)])


def is_representation(matrix, expression):
    """Whether no coefficient is below 0."""
    return is_of_representation(decomposition(matrix, expression))


def are_isomorphic(matrix, expression, other):
    total, other_total = _both_sums(matrix, expression, other)
    return total == other_total


def _both_sums(matrix, expression, other):
    check_small(matrix)
    check_expression(matrix, expression)
    check_expression(matrix, other)
    return sum_of_tree(matrix, expression, {}), sum_of_tree(matrix, other, {})


def contains(matrix, expression, other):
    """Whether the first EXPRESSION contains the other one."""
    total, other_total = _both_sums(matrix, expression, other)
    return contains_sum(total, other_total)


def homomorphisms(matrix, expression, other):
    """The number of the homomorphisms of the first EXPRESSION to the other one."""
    total, other_total = _both_sums(matrix, expression, other)
    return homs_of_sums(total, other_total)


def invariants(matrix, expression):
    """The coefficient at 0."""
    return coefficient_at(decomposition(matrix, expression), (0,) * len(matrix))
