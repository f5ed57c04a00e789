"""Crystals of paths, and what is told by them: products, restrictions, Demazure's tables."""

from weylweights.checks import check_nodes, check_word
from weylweights.levis import weight_at
from weylweights.paths import lowered_once, place_at_end, raisings, straight_path
from weylweights.roots import vector_sum
from weylweights.tables import pairs_of_counts
from weylweights.weights import check_highest, check_small


def crystal(matrix, weight):
    """All paths that come of the straight one of this highest weight by lowering."""
    check_small(matrix)
    check_highest(matrix, weight)
    return _in_order(_lowered_ones(matrix, weight))


def _in_order(paths):
    return tuple(sorted(paths, key=_weights_then_lengths))


def _weights_then_lengths(path):
    return [weight for weight, _ in path], [length for _, length in path]


def _lowered_ones(matrix, weight):
    """For each path of the crystal what comes of it by lowering at each node."""
    start = straight_path(weight)
    found = {start: True}
    waiting = [start]
    lowered_ones = {}
    at = 0
    while at < len(waiting):
        path = waiting[at]
        lowered_ones[path] = [lowered_once(matrix, path, node) for node in range(len(matrix))]
        for lower in lowered_ones[path]:
            if lower is not None and lower not in found:
                found[lower] = True
                waiting.append(lower)
        at += 1
    return lowered_ones


def product_by_paths(matrix, weight, other):
    """The product of two irreducible ones by Littelmann's rule."""
    check_small(matrix)
    check_highest(matrix, weight)
    check_highest(matrix, other)
    coefficients = {}
    for path in _lowered_ones(matrix, other):
        # its least number at a node is as far below 0 as it can be raised there
        if all([raisings(path, node) <= number for node, number in enumerate(weight)]):
            place = vector_sum(weight, place_at_end(path))
            coefficients[place] = coefficients.get(place, 0) + 1
    return pairs_of_counts(coefficients)


def restricted_by_paths(matrix, nodes, weight):
    """The restriction of an irreducible one to some nodes by Littelmann's rule."""
    check_small(matrix)
    check_nodes(matrix, nodes)
    check_highest(matrix, weight)
    coefficients = {}
    for path in _lowered_ones(matrix, weight):
        if all([raisings(path, node) == 0 for node in nodes]):
            place = weight_at(nodes, place_at_end(path))
            coefficients[place] = coefficients.get(place, 0) + 1
    return pairs_of_counts(coefficients)


def demazure(matrix, weight, word):
    """The Demazure table: what the operators of the word make of the highest weight, the last node first."""
    check_small(matrix)
    check_highest(matrix, weight)
    check_word(matrix, word)
    counts = {weight: 1}
    for node in reversed(word):
        counts = _operated(matrix, node, counts)
    return pairs_of_counts(counts)


def _operated(matrix, node, counts):
    """What Demazure's operator of the node makes of the counts."""
    made = {}
    for weight, count in _heads(matrix, node, counts).items():
        for times in range(weight[node] + 1):
            place = _taken_off(matrix, node, weight, times)
            made[place] = made.get(place, 0) + count
    return made


def _heads(matrix, node, counts):
    """Counts of numbers from 0 on at the node, of which the operator makes the same."""
    heads = {}
    for weight, count in counts.items():
        number = weight[node]
        if number >= 0:
            heads[weight] = heads.get(weight, 0) + count
        elif number < -1:
            # of this one comes less what comes of the other end of its sum, whose number is - number - 2
            end = _taken_off(matrix, node, weight, number + 1)
            heads[end] = heads.get(end, 0) - count
    return {head: count for head, count in heads.items() if count != 0}


def _taken_off(matrix, node, weight, times):
    """The weight less so many times the simple root of the node."""
    return tuple([number - times * row[node] for number, row in zip(weight, matrix)])


def demazure_paths(matrix, weight, word):
    """The paths that come of the straight one by lowering at each node of the word, the last one first."""
    check_small(matrix)
    check_highest(matrix, weight)
    check_word(matrix, word)
    lowered_ones = _lowered_ones(matrix, weight)
    found = {straight_path(weight): True}
    for node in reversed(word):
        for path in list(found):
            lower = lowered_ones[path][node]
            # one that is found already is lowered by itself
            while lower is not None and lower not in found:
                found[lower] = True
                lower = lowered_ones[lower][node]
    return _in_order(found)
