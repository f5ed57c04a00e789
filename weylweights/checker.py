"""The checker: whether a paper shows what a claim tells.

No count is taken from Freudenthal's sums here: tables come from the paper, or from the roots, and are judged by
reflections alone.
"""

from weylweights.cartan import image_of, is_matrix
from weylweights.checks import is_node, is_row, is_whole
from weylweights.expressions import counts_by_leaves, counts_by_roots, is_expression, leaves_in
from weylweights.roots import positive_coroots
from weylweights.tables import (
    MOST_SIZE, counts_of_pairs, is_sum_of_rank, is_table_of_rank, pairs_of_counts, product_by_reflections,
    size_of_table,
)
from weylweights.weights import MOST_DIMENSION, dimension_by, is_small
from weylweights.weyl import weight_reflection


def accepts(claim, paper):
    """Whether the paper is one for the claim."""
    if not isinstance(claim, tuple) or len(claim) == 0 or not isinstance(claim[0], str):
        return False
    if claim[0] not in LENGTHS or len(claim) != LENGTHS[claim[0]]:
        return False
    is_let = is_matrix(claim[1]) if claim[0] in OF_ANY_KIND else is_small(claim[1])
    shows = CHECKS[claim[0]]
    return is_let and shows(claim, paper)


def _is_dominant(matrix, value):
    return is_row(value, len(matrix)) and min(value) >= 0


def _is_highest(matrix, value):
    """Whether the value is a dominant weight of a dimension of up to 1000."""
    return _is_dominant(matrix, value) and dimension_by(positive_coroots(matrix), value) <= MOST_DIMENSION


def _is_table(matrix, value):
    """Whether the value is a table of a size of up to 1000."""
    return is_table_of_rank(value, len(matrix)) and size_of_table(value) <= MOST_SIZE


def _is_nothing(paper):
    return isinstance(paper, tuple) and len(paper) == 0


def _is_alike(matrix, table):
    counts = counts_of_pairs(table)
    return all([_count_reflected(matrix, counts, weight, node) == count
                for weight, count in table for node in range(len(matrix))])


def _count_reflected(matrix, counts, weight, node):
    """The count of the simple reflection of the weight."""
    return counts.get(weight_reflection(matrix, node, weight), 0)


def _alternating_sums(matrix, table):
    """The pairs of all dominant weights at which the alternating sum is not 0, and of this sum.

    The table is alike. So, in the sum at L, the count at L and rho, less w of rho, may be taken at its image by the
    inverse of w: at the weight that comes, with rho added, from L and rho by this inverse. Each weight of the table is
    such a one for just one L and w, or for none.
    """
    return pairs_of_counts(product_by_reflections(matrix, (0,) * len(matrix), counts_of_pairs(table)))


def _alternating_sum_at(matrix, table, weight):
    sums = counts_of_pairs(_alternating_sums(matrix, table))
    return sums.get(weight, 0)


def _is_right(matrix, weight, value):
    """Whether the value is the character of the irreducible one of this dominant weight."""
    if not is_table_of_rank(value, len(matrix)) or not _is_alike(matrix, value):
        return False
    return _alternating_sums(matrix, value) == ((weight, 1),)


def _shows_irreducible(claim, paper):
    _, matrix, weight, table = claim
    return _is_highest(matrix, weight) and _is_right(matrix, weight, table) and _is_nothing(paper)


def _shows_character(claim, paper):
    _, matrix, table = claim
    if not _is_table(matrix, table) or not is_sum_of_rank(paper, len(matrix)):
        return False
    if not all([coefficient > 0 for _, coefficient in paper]):
        return False
    return _is_alike(matrix, table) and _alternating_sums(matrix, table) == paper


def _shows_no_character(claim, paper):
    _, matrix, table = claim
    if not _is_table(matrix, table):
        return False
    if _is_dominant(matrix, paper):
        return _is_alike(matrix, table) and _alternating_sum_at(matrix, table, paper) < 0
    return _is_weight_and_node(matrix, paper) and _is_unlike_at(matrix, table, paper)


def _is_weight_and_node(matrix, value):
    if not isinstance(value, tuple) or len(value) != 2:
        return False
    return is_row(value[0], len(matrix)) and is_node(value[1], len(matrix))


def _is_unlike_at(matrix, table, paper):
    weight, node = paper
    counts = counts_of_pairs(table)
    return counts.get(weight, 0) != _count_reflected(matrix, counts, weight, node)


def _shows_dimension(claim, paper):
    _, matrix, weight, many = claim
    if not _is_dominant(matrix, weight) or not is_whole(many):
        return False
    return _is_nothing(paper) and dimension_by(positive_coroots(matrix), weight) == many


def _shows_product(claim, paper):
    _, matrix, weight, other, total = claim
    if not _is_highest(matrix, weight) or not _is_highest(matrix, other) or not is_sum_of_rank(total, len(matrix)):
        return False
    if not _is_right(matrix, other, paper):
        return False
    return pairs_of_counts(product_by_reflections(matrix, weight, counts_of_pairs(paper))) == total


def _are_characters(matrix, trees, value):
    """Whether the value has a right character for each part of the trees that is told by its weight, and no other."""
    if not isinstance(value, tuple) or not all([isinstance(pair, tuple) and len(pair) == 2 for pair in value]):
        return False
    if not all([is_row(weight, len(matrix)) for weight, _ in value]):
        return False
    if [weight for weight, _ in value] != weights_in(trees):
        return False
    return all([_is_right(matrix, weight, table) for weight, table in value])


def weights_in(trees):
    """The weights of the irreducible parts of the trees, each once, ascending."""
    return sorted({leaf[1] for tree in trees for leaf in leaves_in(tree) if leaf[0] == "irreducible"})


def _table_by(matrix, characters, tree):
    """The table of the tree, made of these characters and of the roots."""
    counts = {weight: counts_of_pairs(table) for weight, table in characters}
    leaves = {leaf: counts[leaf[1]] if leaf[0] == "irreducible" else counts_by_roots(matrix, leaf)
              for leaf in leaves_in(tree)}
    return pairs_of_counts(counts_by_leaves(tree, leaves))


def _has_same_tables(claim, paper):
    """Whether the tables of both EXPRESSIONs are the same; None, if the paper is none for this claim."""
    _, matrix, tree, other = claim
    if not is_expression(matrix, tree) or not is_expression(matrix, other):
        return None
    if not _are_characters(matrix, [tree, other], paper):
        return None
    return _table_by(matrix, paper, tree) == _table_by(matrix, paper, other)


def _shows_same(claim, paper):
    return _has_same_tables(claim, paper) is True


def _shows_unlike(claim, paper):
    return _has_same_tables(claim, paper) is False


def _shows_contains(claim, paper):
    _, matrix, tree, weight, many = claim
    if not is_expression(matrix, tree) or not _is_dominant(matrix, weight) or not is_whole(many):
        return False
    if not _are_characters(matrix, [tree], paper):
        return False
    return _alternating_sum_at(matrix, _table_by(matrix, paper, tree), weight) == many


def _shows_finite(claim, paper):
    _, matrix = claim
    return is_row(paper, len(matrix)) and min(paper) > 0 and min(image_of(matrix, paper)) > 0


def _shows_not_finite(claim, paper):
    _, matrix = claim
    if not is_row(paper, len(matrix)) or min(paper) < 0 or max(paper) == 0:
        return False
    return max(image_of(matrix, paper)) <= 0


OF_ANY_KIND = ("finite", "not finite")
# how many elements the claims have
LENGTHS = {
    "irreducible": 4, "character": 3, "no character": 3, "dimension": 4, "product": 5, "same": 4, "unlike": 4,
    "contains": 5, "finite": 2, "not finite": 2,
}
CHECKS = {
    "irreducible": _shows_irreducible, "character": _shows_character, "no character": _shows_no_character,
    "dimension": _shows_dimension, "product": _shows_product, "same": _shows_same, "unlike": _shows_unlike,
    "contains": _shows_contains, "finite": _shows_finite, "not finite": _shows_not_finite,
}
