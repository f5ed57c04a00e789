"""Levi parts: some nodes of a matrix, and the restriction of sums to them."""

from weylweights.cartan import block_of
from weylweights.checks import check_nodes
from weylweights.tables import check_sum, counts_of_sum, sum_of_counts
from weylweights.weights import check_small


def levi_matrix(matrix, nodes):
    """The matrix of the rows and columns of these nodes."""
    check_small(matrix)
    check_nodes(matrix, nodes)
    return levi_rows(matrix, nodes)


def levi_rows(matrix, nodes):
    return tuple([tuple(row) for row in block_of(matrix, nodes)])


def restricted(matrix, nodes, total):
    """The sum, for the matrix of these nodes, of the table with all weights restricted to them."""
    check_small(matrix)
    check_nodes(matrix, nodes)
    check_sum(matrix, total)
    return restricted_sum(matrix, nodes, total)


def restricted_sum(matrix, nodes, total):
    counts = {}
    for weight, count in counts_of_sum(matrix, total).items():
        place = weight_at(nodes, weight)
        counts[place] = counts.get(place, 0) + count
    return sum_of_counts(levi_rows(matrix, nodes), counts)


def weight_at(nodes, weight):
    """The weight restricted to these nodes."""
    return tuple([weight[node] for node in nodes])
