import unittest
from itertools import permutations, product

from tests import matrices
from tests.matrices import AFFINE, APART, INDEFINITE, TYPES, WILD, reordered, shuffled, together
from weylweights.cartan import is_matrix, kinds_of, parts_of
from weylweights.errors import InvalidMatrix, InvalidType, NotFinite
from weylweights.types import is_type, matrix_of, rank_of, type_of

NAMES = [f"{letter}{many}" for letter, many in TYPES]
DEEP = ()
for _ in range(29):
    DEEP = (DEEP,)
WRONG = (
    None, True, False, 0, 2, -3, b"A2", [], ["A2"], ("A2",), {"A2": 1}, {"A2"}, object(), str, len, ..., DEEP,
    "", " ", "A", "2", "A0", "A9", "A10", "A01", "A-1", "a2", "B1", "C1", "C2", "D1", "D2", "D3", "E1", "E4", "E5",
    "E9", "F1", "F3", "F5", "G1", "G3", "H2", "H3", "I2", "A2 ", " A2", "A2  A1", "A2\tA1", "A2\nA1", "A2\n", "A2,A1",
    "A2A1", "A2 + A1", "E8 A1", "A1 A1 A1 A1 A1 A1 A1 A1 A1", "A4 A5", "A 2", "A2 C2", "X9", "A\u0662", "\u0391" "2",
    "A\u00b2", "A" * 4000, "A1 " * 1000, "A2 x", "x A2", "A2 A", "A2 2",
)


def all_types(most):
    """All types of up to so many nodes."""
    found, longer = [], [((), 0)]
    while longer:
        longer = [((*names, name), nodes + many) for names, nodes in longer
                  for name, (_, many) in zip(NAMES, TYPES) if nodes + many <= most]
        found.extend(" ".join(names) for names, _ in longer)
    return found


def matrix_by_names(name):
    return together(*[matrices.of_type(each[0], int(each[1])) for each in name.split(" ")])


def least_order(matrix, part, wanted):
    """The least order by going through all of them."""
    for order in permutations(part):
        if all(matrix[i][j] == row[at] for i, row in zip(order, wanted) for at, j in enumerate(order)):
            return order
    return None


class Examples(unittest.TestCase):
    def test_names(self):
        self.assertEqual(
            [matrix_of("B2"), matrix_of("G2"), matrix_of("A1 A1"), rank_of("E6 A2"), is_type("C2"), is_type("E8"),
             is_type("E8 A1"), is_type("A2  A1")],
            [((2, -1), (-2, 2)), ((2, -3), (-1, 2)), ((2, 0), (0, 2)), 8, False, True, False, False])

    def test_matrices(self):
        self.assertEqual(
            [type_of(APART), type_of(matrices.TWO), matrix_of("D4")[1], matrix_of("F4")[2], matrix_of("E6")[3],
             type_of(((2, -1, 0), (-2, 2, -1), (0, -1, 2)))],
            [(('G2', (2, 0)), ('A1', (1,))), (('A2', (0, 1)),), (-1, 2, -1, -1), (0, -2, 2, -1), (0, -1, -1, 2, -1, 0),
             (('C3', (2, 1, 0)),)])


class Names(unittest.TestCase):
    def test_all_single_names(self):
        for letter, figure in product("ABCDEFGHabz ", "0123456789"):
            self.assertIs(is_type(letter + figure), letter + figure in NAMES)

    def test_all_types_of_up_to_eight_nodes(self):
        names = all_types(8)
        self.assertEqual(len(names), len(set(names)))
        for name in names:
            self.assertIs(is_type(name), True)
            self.assertEqual(rank_of(name), sum(int(each[1]) for each in name.split(" ")))
            self.assertEqual(matrix_of(name), matrix_by_names(name))
            self.assertTrue(is_matrix(matrix_of(name)))

    def test_more_than_eight_nodes(self):
        for name, other in product(NAMES, repeat=2):
            self.assertIs(is_type(f"{name} {other}"), int(name[1]) + int(other[1]) <= 8)
        self.assertTrue(is_type("A1 A1 A1 A1 A1 A1 A1 A1"))

    def test_what_is_no_type(self):
        for wrong in WRONG:
            with self.subTest(wrong=wrong):
                self.assertIs(is_type(wrong), False)
                self.assertIs(is_type(value=wrong), False)
                for function in (matrix_of, rank_of):
                    with self.assertRaises(InvalidType) as caught:
                        function(wrong)
                    self.assertIs(type(caught.exception), InvalidType)
                    self.assertIs(caught.exception.given, wrong)
                    with self.assertRaises(InvalidType) as caught:
                        function(name=wrong)
                    self.assertIs(caught.exception.given, wrong)

    def test_numbers_in_rows_by_hand(self):
        self.assertEqual(matrix_of("B3"), ((2, -1, 0), (-1, 2, -1), (0, -2, 2)))
        self.assertEqual(matrix_of("C3"), ((2, -1, 0), (-1, 2, -2), (0, -1, 2)))
        self.assertEqual(matrix_of("D4"), ((2, -1, 0, 0), (-1, 2, -1, -1), (0, -1, 2, 0), (0, -1, 0, 2)))
        self.assertEqual(matrix_of("F4"), ((2, -1, 0, 0), (-1, 2, -1, 0), (0, -2, 2, -1), (0, 0, -1, 2)))
        self.assertEqual(matrix_of("D5")[4], (0, 0, -1, 0, 2))
        self.assertEqual(matrix_of("E8")[1], (0, 2, 0, -1, 0, 0, 0, 0))
        self.assertEqual(matrix_of("A1 B2"), ((2, 0, 0), (0, 2, -1), (0, -2, 2)))


class Types(unittest.TestCase):
    def test_all_types_in_the_usual_order(self):
        for name in all_types(8):
            pairs = type_of(matrix_of(name))
            self.assertEqual(" ".join(each for each, _ in pairs), name)
            self.assertEqual(tuple(node for _, nodes in pairs for node in sorted(nodes)), tuple(range(rank_of(name))))
            for each, nodes in pairs:
                self.assertEqual(reordered(matrix_of(name), nodes), matrix_of(each))

    def test_all_finite_matrices_of_up_to_four_nodes_in_all_orders(self):
        for many in (1, 2, 3, 4):
            for matrix in matrices.all_finite(many):
                self.check(matrix)

    def test_types_of_five_to_eight_nodes_in_other_orders(self):
        for at, name in enumerate(all_types(8)):
            if rank_of(name) > 4 and at % 7 == 0 or len(name) == 2:
                self.check(reordered(matrix_of(name), shuffled(rank_of(name), at)))

    def check(self, matrix):
        pairs = type_of(matrix)
        self.assertIs(type(pairs), tuple)
        parts = parts_of(matrix)
        self.assertEqual(len(pairs), len(parts))
        for (name, nodes), part in zip(pairs, parts):
            self.assertIn(name, NAMES)
            self.assertEqual(rank_of(name), len(part))
            self.assertEqual(nodes, least_order(matrix, part, matrix_of(name)))

    def test_orders_by_hand(self):
        self.assertEqual(type_of(reordered(matrix_of("D4"), (1, 0, 2, 3))), (("D4", (1, 0, 2, 3)),))
        self.assertEqual(type_of(reordered(matrix_of("A3"), (2, 0, 1))), (("A3", (0, 2, 1)),))
        self.assertEqual(type_of(((2, -2), (-1, 2))), (("B2", (1, 0)),))
        self.assertEqual(type_of(((2, -1), (-3, 2))), (("G2", (1, 0)),))
        self.assertEqual(type_of(reordered(matrix_of("E6"), (5, 4, 3, 2, 1, 0))), (("E6", (0, 4, 1, 2, 3, 5)),))
        self.assertEqual(type_of(reordered(matrix_of("A2 A2"), (0, 2, 1, 3))), (("A2", (0, 2)), ("A2", (1, 3))))

    def test_finite_just_if_all_parts_are_of_a_type(self):
        for many, most in ((1, 1), (2, 6), (3, 4), (4, 2)):
            for matrix in matrices.small_matrices(many, most):
                if all(kind == "finite" for kind in kinds_of(matrix)):
                    for name, nodes in type_of(matrix):
                        self.assertEqual(reordered(matrix, nodes), matrix_of(name))
                else:
                    self.refused(matrix)

    def test_matrices_that_are_not_finite(self):
        for matrix in [*AFFINE, *INDEFINITE]:
            self.refused(matrix)
            if len(matrix) < 8:
                self.refused(together(matrix, matrices.of_type("A", 1)))
                self.refused(together(matrices.of_type("A", 1), matrix))

    def refused(self, matrix):
        with self.assertRaises(NotFinite) as caught:
            type_of(matrix)
        self.assertIs(type(caught.exception), NotFinite)

    def test_what_is_no_matrix(self):
        nine = matrices.from_edges(9, matrices.chain(9))
        for wrong in (None, 0, "A2", (), nine, [[2]], ((1,),), ((2, -1), (0, 2)), ((2, -1), [-1, 2]), [WILD], DEEP):
            for arguments in ({"matrix": wrong},):
                with self.assertRaises(InvalidMatrix) as caught:
                    type_of(**arguments)
                self.assertIs(caught.exception.given, wrong)


if __name__ == "__main__":
    unittest.main()
