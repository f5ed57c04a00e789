"""Littelmann's paths: lowering and raising, and what comes of them.

A path is worked on in ticks: steps of a weight and a whole number of ticks, the whole time being so many ticks that
the height, the number of the place at a node, comes to whole values, and turns, only at whole ticks. Heights are told
in ticks, too. On paths of crystals all turns of the height are at whole values, so that it rises between the last time
at which it has its least value and the first time behind it at which it has one more.
"""

from math import gcd, lcm

from weylweights.checks import check_node, is_row
from weylweights.errors import InvalidPath
from weylweights.roots import positive_coroots
from weylweights.weights import MOST_DIMENSION, check_highest, check_small, dimension_by, fraction_of, led_to_dominant
from weylweights.weyl import weight_reflection


def is_path(matrix, value):
    """Whether the value is a path of a crystal whose highest weight has a dimension of up to 1000."""
    check_small(matrix)
    return _is_path(matrix, value)


def _is_path(matrix, value):
    if not _has_form(matrix, value) or not _takes_time_1(value) or not _stays_in_orbit(matrix, value):
        return False
    highest = led_to_dominant(matrix, value[0][0])
    return dimension_by(positive_coroots(matrix), highest) <= MOST_DIMENSION and _is_of_crystal(matrix, value)


def _has_form(matrix, value):
    if not isinstance(value, tuple) or len(value) == 0:
        return False
    return all([_is_step(step, len(matrix)) for step in value])


def _is_step(value, many):
    if not isinstance(value, tuple) or len(value) != 2:
        return False
    weight, length = value
    return is_row(weight, many) and _is_length(length)


def _is_length(value):
    """Whether the value is a fraction above 0 in lowest terms."""
    return is_row(value, 2) and min(value) > 0 and gcd(value[0], value[1]) == 1


def _takes_time_1(path):
    ticks, steps = _in_ticks(path)
    return sum([length for _, length in steps]) == ticks


def _stays_in_orbit(matrix, path):
    weights = [weight for weight, _ in path]
    highest = led_to_dominant(matrix, weights[0])
    if any([weight == behind for weight, behind in zip(weights, weights[1:])]):
        return False
    return all([led_to_dominant(matrix, weight) == highest for weight in weights])


def _is_of_crystal(matrix, path):
    """Whether raising leads up to the straight path, and lowering back again."""
    nodes = range(len(matrix))
    while all([_has_whole_least(path, each) for each in nodes]):
        below = [each for each in nodes if raisings(path, each) > 0]
        if len(below) == 0:
            return len(path) == 1
        node = below[0]
        times = raisings(path, node)
        higher = raised_by(matrix, path, node, times)
        if lowered_by(matrix, higher, node, times) != path:
            return False
        path = higher
    return False


def _has_whole_least(path, node):
    ticks, heights = _heights(path, node)
    return min(heights) % ticks == 0


def check_path(matrix, path):
    if not _is_path(matrix, path):
        raise InvalidPath(path)


def _check_step(matrix, path, node):
    check_small(matrix)
    check_path(matrix, path)
    check_node(matrix, node)


def straight(matrix, weight):
    """The straight path of this highest weight."""
    check_small(matrix)
    check_highest(matrix, weight)
    return straight_path(weight)


def straight_path(weight):
    return ((weight, (1, 1)),)


def end_of(matrix, path):
    """The place at which the path ends."""
    check_small(matrix)
    check_path(matrix, path)
    return place_at_end(path)


def place_at_end(path):
    ticks, steps = _in_ticks(path)
    nodes = range(len(steps[0][0]))
    return tuple([sum([weight[node] * length for weight, length in steps]) // ticks for node in nodes])


def lowered(matrix, path, node):
    """The path lowered at the node; None."""
    _check_step(matrix, path, node)
    return lowered_once(matrix, path, node)


def lowered_once(matrix, path, node):
    return lowered_by(matrix, path, node, 1) if lowerings(path, node) > 0 else None


def raised(matrix, path, node):
    """The path raised at the node; None."""
    _check_step(matrix, path, node)
    return raised_by(matrix, path, node, 1) if raisings(path, node) > 0 else None


def how_low(matrix, path, node):
    """How often the path can be lowered at the node."""
    _check_step(matrix, path, node)
    return lowerings(path, node)


def lowerings(path, node):
    ticks, heights = _heights(path, node)
    return (heights[-1] - min(heights)) // ticks


def how_high(matrix, path, node):
    """How often the path can be raised at the node."""
    _check_step(matrix, path, node)
    return raisings(path, node)


def raisings(path, node):
    ticks, heights = _heights(path, node)
    return -min(heights) // ticks


def reflected(matrix, path, node):
    """The path lowered as often as the number of its end at the node tells, or raised, if this is below 0."""
    _check_step(matrix, path, node)
    number = place_at_end(path)[node]
    return lowered_by(matrix, path, node, number) if number >= 0 else raised_by(matrix, path, node, -number)


def turned_back(matrix, path):
    """The path with its weights with the other sign, in the other order."""
    check_small(matrix)
    check_path(matrix, path)
    return _turned(path)


def _turned(path):
    return tuple([(tuple([-number for number in weight]), length) for weight, length in path[::-1]])


def top_of(matrix, path):
    """The highest weight of the crystal of the path."""
    check_small(matrix)
    check_path(matrix, path)
    return led_to_dominant(matrix, path[0][0])


def _in_ticks(path):
    """The ticks of the whole time, and the pairs of a weight and its ticks."""
    ticks = 1
    for _, length in path:
        ticks = lcm(ticks, length[1])
    return ticks, [(weight, length[0] * (ticks // length[1])) for weight, length in path]


def _in_fine_ticks(path, node):
    """As _in_ticks, and so fine that each value that is whole in ticks is come to at a whole tick."""
    ticks, steps = _in_ticks(path)
    finer = 1
    for weight, _ in steps:
        if weight[node] != 0:
            finer = lcm(finer, weight[node])
    return ticks * finer, [(weight, length * finer) for weight, length in steps]


def _heights(path, node):
    """The ticks of the whole time, and the heights at the start and behind each step."""
    ticks, steps = _in_ticks(path)
    return ticks, _heights_of_steps(steps, node)


def _heights_of_steps(steps, node):
    heights = [0]
    for weight, length in steps:
        heights.append(heights[-1] + weight[node] * length)
    return heights


def lowered_by(matrix, path, node, times):
    """The path lowered so many times at the node, at most as often as it can be."""
    ticks, steps = _in_fine_ticks(path, node)
    heights = _heights_of_steps(steps, node)
    # from behind: what lies below the limit and below all that comes behind is turned
    limit = min(heights) + times * ticks
    pieces = []
    for at in reversed(range(len(steps))):
        weight, length = steps[at]
        limit = min(limit, heights[at + 1])
        turned = (limit - heights[at]) // weight[node] if heights[at] < limit else 0
        pieces.append((weight, length - turned))
        pieces.append((weight_reflection(matrix, node, weight), turned))
        limit = min(limit, heights[at])
    return _path_of(pieces[::-1], ticks)


def _path_of(pieces, ticks):
    """The path of these steps: alike neighbours are joined, those without length are left out."""
    steps = []
    for weight, length in pieces:
        if length > 0 and len(steps) > 0 and steps[-1][0] == weight:
            steps[-1] = (weight, steps[-1][1] + length)
        elif length > 0:
            steps.append((weight, length))
    return tuple([(weight, fraction_of(length, ticks)) for weight, length in steps])


def raised_by(matrix, path, node, times):
    """The path raised so many times at the node, at most as often as it can be."""
    # of a path turned back lowering becomes raising
    return _turned(lowered_by(matrix, _turned(path), node, times))
