"""The Weyl group of a finite Cartan matrix: its elements are told by words of nodes."""

from weylweights.cartan import check_finite
from weylweights.checks import check_weight, check_word
from weylweights.roots import exponents_of, positive_roots, reflection_of


def led(matrix, word, weight):
    """The weight to which the element of the word leads this one."""
    check_finite(matrix)
    check_word(matrix, word)
    check_weight(matrix, weight)
    return _led(matrix, word, weight)


def _led(matrix, word, weight):
    for node in reversed(word):
        weight = weight_reflection(matrix, node, weight)
    return weight


def weight_reflection(matrix, node, weight):
    """What the simple reflection at the node makes of a weight."""
    return tuple([number - weight[node] * row[node] for number, row in zip(weight, matrix)])


def _rho(matrix):
    return (1,) * len(matrix)


def least_word(matrix, word):
    check_finite(matrix)
    check_word(matrix, word)
    return _least_word(matrix, word)


def _least_word(matrix, word):
    return _least_word_to(matrix, _led(matrix, word, _rho(matrix)))


def _least_word_to(matrix, weight):
    """The least word of the element that leads rho to the weight."""
    word = []
    while min(weight) < 0:
        node = first_below_0(weight)
        word.append(node)
        weight = weight_reflection(matrix, node, weight)
    return tuple(word)


def first_below_0(weight):
    return min([node for node in range(len(weight)) if weight[node] < 0])


def length_of(matrix, word):
    """The length of the element of the word."""
    return len(least_word(matrix, word))


def product(matrix, word, other_word):
    """The least word of the one element times the other one, which is done first."""
    check_finite(matrix)
    check_word(matrix, word)
    check_word(matrix, other_word)
    return _least_word(matrix, word + other_word)


def inverse(matrix, word):
    """The least word of the inverse element."""
    check_finite(matrix)
    check_word(matrix, word)
    return _least_word(matrix, word[::-1])


def order_of(matrix, word):
    """How often the element has to be done, at least once, until all stands as before."""
    check_finite(matrix)
    check_word(matrix, word)
    # an element that leads rho to itself leads everything to itself
    weight = _led(matrix, word, _rho(matrix))
    times = 1
    while weight != _rho(matrix):
        weight = _led(matrix, word, weight)
        times += 1
    return times


def longest(matrix):
    """The least word of the longest element."""
    check_finite(matrix)
    return _least_word_to(matrix, (-1,) * len(matrix))


def made_negative(matrix, word):
    """The positive roots that the element leads to negative ones, in their order."""
    check_finite(matrix)
    check_word(matrix, word)
    least = _least_word(matrix, word)
    return tuple([root for root in positive_roots(matrix) if sum(_led_root(matrix, least, root)) < 0])


def _led_root(matrix, word, root):
    for node in reversed(word):
        root = reflection_of(matrix, node, root)
    return root


def counts_by_length(matrix):
    """How many elements of length 0, 1, .. there are."""
    counts = [1]
    for exponents in exponents_of(matrix):
        for exponent in exponents:
            counts = _times_row_of_powers(counts, exponent)
    return tuple(counts)


def _times_row_of_powers(counts, exponent):
    """The polynomial of these coefficients times 1 + q + .. up to this power of q."""
    spread = [0] * (len(counts) + exponent)
    for at, count in enumerate(counts):
        for power in range(exponent + 1):
            spread[at + power] += count
    return spread


def how_many(matrix):
    """The number of elements."""
    number = 1
    for exponents in exponents_of(matrix):
        for exponent in exponents:
            number = number * (exponent + 1)
    return number
