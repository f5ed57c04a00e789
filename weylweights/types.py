"""Dynkin types: their names, their matrices in Bourbaki's numbering, and the types of the parts of a matrix."""

from weylweights.cartan import check_matrix, parts_of
from weylweights.errors import InvalidType, NotFinite

MOST_NODES = 8
FIGURES = "12345678"
# for each letter the least and the greatest number that may stand behind it
RANKS = {"A": (1, 8), "B": (2, 8), "C": (3, 8), "D": (4, 8), "E": (6, 8), "F": (4, 4), "G": (2, 2)}


def is_type(value):
    """Whether the value is a text of names of types, of up to 8 nodes in all."""
    if not isinstance(value, str):
        return False
    names = value.split(" ")
    return all([_is_name(name) for name in names]) and sum([_nodes_of_name(name) for name in names]) <= MOST_NODES


def _is_name(text):
    if len(text) != 2 or text[0] not in RANKS or text[1] not in FIGURES:
        return False
    least, most = RANKS[text[0]]
    return least <= _nodes_of_name(text) <= most


def _nodes_of_name(name):
    return int(name[1])


def check_type(name):
    if not is_type(name):
        raise InvalidType(name)


def matrix_of(name):
    """The matrix of the type: its parts one behind the other."""
    check_type(name)
    many = rank_of(name)
    rows = []
    for each in name.split(" "):
        ahead = len(rows)
        behind = many - ahead - _nodes_of_name(each)
        rows.extend([(0,) * ahead + tuple(row) + (0,) * behind for row in _rows_of_name(each)])
    return tuple(rows)


def rank_of(name):
    """How many nodes the type has."""
    check_type(name)
    return sum([_nodes_of_name(each) for each in name.split(" ")])


def _rows_of_name(name):
    many = _nodes_of_name(name)
    rows = [[2 if i == j else 0 for j in range(many)] for i in range(many)]
    for i, j in _joined(name[0], many):
        rows[i][j] = rows[j][i] = -1
    if name[0] == "B":
        rows[many - 1][many - 2] = -2
    elif name[0] == "C":
        rows[many - 2][many - 1] = -2
    elif name[0] == "F":
        rows[2][1] = -2
    elif name[0] == "G":
        rows[0][1] = -3
    return rows


def _joined(letter, many):
    """The pairs of nodes that are joined."""
    if letter == "D":
        return _chain(list(range(many - 1))) + [(many - 3, many - 1)]
    if letter == "E":
        return _chain([0] + list(range(2, many))) + [(1, 3)]
    return _chain(list(range(many)))


def _chain(nodes):
    return list(zip(nodes, nodes[1:]))


def type_of(matrix):
    """For each part the pair of the name of its type and of its nodes in Bourbaki's order."""
    check_matrix(matrix)
    pairs = [_type_of_part(matrix, part) for part in parts_of(matrix)]
    # a part is finite just if it is of a type
    if None in pairs:
        raise NotFinite()
    return tuple(pairs)


def _type_of_part(matrix, part):
    """The pair for this part; None, if it is of no type."""
    for letter in RANKS:
        name = f"{letter}{len(part)}"
        nodes = _least_order(matrix, part, _rows_of_name(name)) if _is_name(name) else None
        if nodes is not None:
            return name, nodes
    return None


def _least_order(matrix, part, rows):
    """The least order of the nodes of the part in which its matrix has these rows; None."""
    # ascending at each step, since the nodes of the part are
    orders = [()]
    for _ in part:
        orders = [order + (node,) for order in orders for node in part if _goes_on(matrix, rows, order, node)]
    return orders[0] if orders else None


def _goes_on(matrix, rows, order, node):
    """Whether the rows let the node stand behind those of the order."""
    if node in order:
        return False
    row = rows[len(order)]
    return all([matrix[node][other] == row[at] and matrix[other][node] == rows[at][len(order)]
                for at, other in enumerate(order)])
