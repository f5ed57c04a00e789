"""What counts as a whole number, a row of them, a node, some nodes or a word, and the errors for what does not.

Everything here looks at kinds before it compares, since any value whatever may be passed.
"""

from weylweights.errors import InvalidCount, InvalidNode, InvalidNodes, InvalidVector, InvalidWeight, InvalidWord

LONGEST_WORD = 300


def is_whole(value):
    # Python takes True and False for integers, the document does not
    return isinstance(value, int) and not isinstance(value, bool)


def is_row(value, many):
    """Whether the value is a tuple of so many whole numbers."""
    if not isinstance(value, tuple) or len(value) != many:
        return False
    return all([is_whole(number) for number in value])


def is_node(value, many):
    """Whether the value is a node of a matrix of so many rows."""
    return is_whole(value) and 0 <= value < many


def is_nodes(value, many):
    """Whether the value is an ascending tuple of one or more nodes of a matrix of so many rows."""
    if not isinstance(value, tuple) or len(value) == 0:
        return False
    return all([is_node(node, many) for node in value]) and is_ascending(value)


def is_ascending(values):
    return all([value < behind for value, behind in zip(values, values[1:])])


def is_word(value, many):
    """Whether the value is a word of nodes of a matrix of so many rows."""
    if not isinstance(value, tuple) or len(value) > LONGEST_WORD:
        return False
    return all([is_node(node, many) for node in value])


def check_vector(matrix, vector):
    if not is_row(vector, len(matrix)):
        raise InvalidVector(vector)


def check_weight(matrix, weight):
    if not is_row(weight, len(matrix)):
        raise InvalidWeight(weight)


def check_dominant(matrix, weight):
    check_weight(matrix, weight)
    if min(weight) < 0:
        raise InvalidWeight(weight)


def check_node(matrix, node):
    if not is_node(node, len(matrix)):
        raise InvalidNode(node)


def check_nodes(matrix, nodes):
    if not is_nodes(nodes, len(matrix)):
        raise InvalidNodes(nodes)


def check_count(count, least, most):
    if not is_whole(count) or not least <= count <= most:
        raise InvalidCount(count)


def check_word(matrix, word):
    if not is_word(word, len(matrix)):
        raise InvalidWord(word)
