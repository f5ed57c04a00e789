"""Claims with papers that the checker accepts."""

from weylweights.cartan import FINITE, is_finite, kinds_of, parts_of, shown_by
from weylweights.characters import counts_of
from weylweights.checker import weights_in
from weylweights.expressions import check_expression, coefficient_at, counts_of_tree, sum_of_tree
from weylweights.tables import (
    check_table, counts_of_pairs, pairs_of_counts, product_by_reflections, sum_of_counts, unlike_at,
)
from weylweights.weights import check_highest, check_small


def _table(matrix, weight):
    return pairs_of_counts(counts_of(matrix, weight))


def certify_irreducible(matrix, weight):
    """That the table is the character of the irreducible one."""
    check_small(matrix)
    check_highest(matrix, weight)
    return ("irreducible", matrix, weight, _table(matrix, weight)), ()


def certify_character(matrix, table):
    """That the table is the character of a representation, or of none."""
    check_small(matrix)
    check_table(matrix, table)
    unlike = unlike_at(matrix, table)
    if unlike is not None:
        return ("no character", matrix, table), unlike
    total = sum_of_counts(matrix, counts_of_pairs(table))
    for weight, coefficient in total:
        if coefficient < 0:
            return ("no character", matrix, table), weight
    return ("character", matrix, table), total


def certify_product(matrix, weight, other):
    """What the product of two irreducible ones is."""
    check_small(matrix)
    check_highest(matrix, weight)
    check_highest(matrix, other)
    counts = counts_of(matrix, other)
    total = pairs_of_counts(product_by_reflections(matrix, weight, counts))
    return ("product", matrix, weight, other, total), pairs_of_counts(counts)


def _characters(matrix, trees):
    return tuple([(weight, _table(matrix, weight)) for weight in weights_in(trees)])


def certify_same(matrix, expression, other):
    """That the EXPRESSIONs are isomorphic, or that they are not."""
    check_small(matrix)
    check_expression(matrix, expression)
    check_expression(matrix, other)
    tables = [pairs_of_counts(counts_of_tree(matrix, tree, {})) for tree in (expression, other)]
    word = "same" if tables[0] == tables[1] else "unlike"
    return (word, matrix, expression, other), _characters(matrix, [expression, other])


def certify_contains(matrix, expression, weight):
    """How many times the irreducible one comes in the decomposition."""
    check_small(matrix)
    check_expression(matrix, expression)
    check_highest(matrix, weight)
    many = coefficient_at(sum_of_tree(matrix, expression, {}), weight)
    return ("contains", matrix, expression, weight, many), _characters(matrix, [expression])


def certify_finite(matrix):
    """That there are finitely many roots, or that there are not."""
    shown = shown_by(matrix)
    if is_finite(matrix):
        return ("finite", matrix), shown
    # finite parts are left out: there the vector shows the contrary
    infinite = [node for part, kind in zip(parts_of(matrix), kinds_of(matrix)) if kind != FINITE for node in part]
    return ("not finite", matrix), tuple([number if node in infinite else 0 for node, number in enumerate(shown)])
