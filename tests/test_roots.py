import unittest

from tests import matrices
from tests.matrices import APART, B_TWO, G_TWO, HUGE, TWO
from weylweights.cartan import parts_of, symmetrizer_of
from weylweights.errors import InvalidRoot
from weylweights.roots import (
    coroot_of, exponents_of, height_of, highest_roots, is_root, positive_roots, reflected, string_of, value_at,
)

COUNTS = {
    "A": lambda many: many * (many + 1) // 2, "B": lambda many: many ** 2, "C": lambda many: many ** 2,
    "D": lambda many: many * (many - 1), "E": lambda many: {6: 36, 7: 63, 8: 120}[many],
    "F": lambda many: 24, "G": lambda many: 6,
}
HIGHEST = {
    ("A", 1): (1,), ("A", 4): (1, 1, 1, 1), ("B", 2): (1, 2), ("B", 4): (1, 2, 2, 2), ("C", 4): (2, 2, 2, 1),
    ("D", 4): (1, 2, 1, 1), ("D", 6): (1, 2, 2, 2, 1, 1), ("E", 6): (1, 2, 2, 3, 2, 1),
    ("E", 7): (2, 2, 3, 4, 3, 2, 1), ("E", 8): (2, 3, 4, 6, 5, 4, 3, 2), ("F", 4): (2, 3, 4, 2), ("G", 2): (3, 2),
}
MIXED = matrices.mixed_finite()
SMALL = [matrix for matrix in MIXED if len(matrix) <= 4] + [
    matrices.together(matrices.of_type("B", 3), G_TWO),
    matrices.reordered(matrices.together(matrices.of_type("C", 3), G_TWO), (3, 0, 4, 2, 1)),
]


def added(vector, other, times):
    return tuple(number + times * more for number, more in zip(vector, other))


class Examples(unittest.TestCase):
    def test_positive_roots(self):
        self.assertEqual(
            [positive_roots(TWO), positive_roots(G_TWO), highest_roots(APART), exponents_of(APART),
             len(positive_roots(matrices.of_type("F", 4)))],
            [((0, 1), (1, 0), (1, 1)), ((0, 1), (1, 0), (1, 1), (2, 1), (3, 1), (3, 2)), ((2, 0, 3), (0, 1, 0)),
             ((1, 5), (1,)), 24])

    def test_single_roots(self):
        self.assertEqual(
            [reflected(G_TWO, 0, (0, 1)), reflected(G_TWO, 1, (3, 1)), height_of(G_TWO, (3, 2)),
             is_root(G_TWO, (-3, -2)), is_root(G_TWO, (2, 2)), coroot_of(G_TWO, (3, 1)), coroot_of(G_TWO, (2, 1))],
            [(3, 1), (3, 2), 5, True, False, (1, 1), (2, 3)])

    def test_pairs_of_roots(self):
        self.assertEqual(
            [value_at(G_TWO, (1, 0), (0, 1)), value_at(G_TWO, (0, 1), (1, 0)), string_of(G_TWO, (1, 0), (0, 1)),
             string_of(G_TWO, (0, 1), (3, 1)), string_of(TWO, (1, 0), (0, -1))],
            [-3, -1, (0, 3), (0, 1), (1, 0)])


class PositiveRoots(unittest.TestCase):
    def test_all_that_come_from_simple_ones_in_order(self):
        for matrix in MIXED:
            expected = [root for root in matrices.all_roots(matrix) if min(root) >= 0]
            expected.sort(key=lambda root: (sum(root), root))
            self.assertEqual(positive_roots(matrix), tuple(expected))

    def test_counts(self):
        for letter, many in matrices.TYPES:
            self.assertEqual(len(positive_roots(matrices.of_type(letter, many))), COUNTS[letter](many))


class IsRoot(unittest.TestCase):
    def test_roots_and_their_contraries(self):
        for matrix in MIXED:
            for root in matrices.all_roots(matrix):
                self.assertIs(is_root(matrix, root), True)

    def test_box_around_the_roots(self):
        for matrix in matrices.all_finite(2) | matrices.all_finite(3):
            roots = matrices.all_roots(matrix)
            box = [()]
            for _ in matrix:
                box = [(*ahead, number) for ahead in box for number in range(-4, 5)]
            self.assertEqual([vector for vector in box if is_root(matrix, vector)], sorted(roots))

    def test_others(self):
        for value in (
            None, True, 1, "10", b"10", [1, 0], {1: 0}, (), (1,), (1, 0, 0), (0, 0), (True, 0), (1, False),
            (True, False), ((1, 0),), ("1", 0), (None, 1), (1, [0]), (1, {}), (2, 0), (1, -1), (2, 1), (0, -2),
            (HUGE, HUGE), (HUGE, 0), (-HUGE, -HUGE), (HUGE, 1 - HUGE), (HUGE, HUGE + 1), (1, HUGE), object(), int,
        ):
            self.assertIs(is_root(TWO, value), False, value)
            self.assertIs(is_root(matrix=TWO, value=value), False, value)

    def test_multiples_and_sums_of_huge_numbers(self):
        for matrix in (B_TWO, G_TWO, matrices.of_type("E", 8), APART):
            for root in positive_roots(matrix):
                self.assertFalse(is_root(matrix, tuple(2 * number for number in root)))
                self.assertFalse(is_root(matrix, tuple(HUGE * number for number in root)))
                self.assertFalse(is_root(matrix, tuple(-HUGE * number for number in root)))

    def test_across_parts(self):
        self.assertIs(is_root(APART, (1, 1, 1)), False)
        self.assertIs(is_root(APART, (1, 0, 1)), True)
        self.assertIs(is_root(APART, (0, -1, 0)), True)


class Heights(unittest.TestCase):
    def test_heights(self):
        for matrix in SMALL:
            for root in matrices.all_roots(matrix):
                self.assertEqual(height_of(matrix, root), sum(root))
        self.assertEqual(height_of(matrices.of_type("E", 8), (-2, -3, -4, -6, -5, -4, -3, -2)), -29)

    def test_highest_roots(self):
        for name, root in HIGHEST.items():
            self.assertEqual(highest_roots(matrices.of_type(*name)), (root,))

    def test_highest_roots_of_parts(self):
        for matrix in MIXED:
            found = highest_roots(matrix)
            for part, highest in zip(parts_of(matrix), found):
                roots = [root for root in positive_roots(matrix) if any(root[node] for node in part)]
                self.assertEqual([root for root in roots if sum(root) >= sum(highest)], [highest])
            self.assertEqual(len(found), len(parts_of(matrix)))

    def test_exponents(self):
        for at, name in enumerate(matrices.TYPES):
            matrix = matrices.of_type(*name)
            expected = (matrices.exponents_of_type(*name),)
            self.assertEqual(exponents_of(matrix), expected)
            self.assertEqual(exponents_of(matrices.reordered(matrix, matrices.shuffled(name[1], at))), expected)

    def test_exponents_of_parts(self):
        matrix = matrices.together(((2,),), matrices.of_type("D", 4), TWO)
        self.assertEqual(exponents_of(matrix), ((1,), (1, 3, 3, 5), (1, 2)))
        self.assertEqual(exponents_of(matrices.reordered(matrix, (5, 1, 2, 0, 3, 4, 6))),
                         ((1, 2), (1, 3, 3, 5), (1,)))


class Reflected(unittest.TestCase):
    def test_simple_reflections(self):
        for matrix in SMALL:
            for root in matrices.all_roots(matrix):
                for node in range(len(matrix)):
                    image = reflected(matrix, node, root)
                    self.assertEqual(image, matrices.root_reflection(matrix, node, root))
                    self.assertEqual(reflected(root=image, node=node, matrix=matrix), root)


class Values(unittest.TestCase):
    def test_coroots_values_and_strings_by_the_form(self):
        for matrix in SMALL:
            symmetrizer = symmetrizer_of(matrix)
            roots = matrices.all_roots(matrix)
            for root in roots:
                square = matrices.form(matrix, symmetrizer, root, root)
                coroot = tuple(number * 2 * d // square for number, d in zip(root, symmetrizer))
                self.assertEqual([number * square for number in coroot],
                                 [number * 2 * d for number, d in zip(root, symmetrizer)])
                self.assertEqual(coroot_of(matrix, root), coroot)
                for other in roots:
                    value = value_at(matrix, root, other)
                    self.assertEqual(value * square, 2 * matrices.form(matrix, symmetrizer, root, other))
                    if other != root and added(root, other, 1) != (0,) * len(matrix):
                        p, q = string_of(matrix, root, other)
                        row = [k for k in range(-9, 10) if added(other, root, k) in roots]
                        self.assertEqual(row, list(range(-p, q + 1)))
                        self.assertEqual(p - q, value)
                        self.assertLessEqual(p + q, 3)

    def test_large_ones(self):
        for name in (("E", 8), ("B", 8), ("C", 8), ("D", 8), ("F", 4)):
            matrix = matrices.reordered(matrices.of_type(*name), matrices.shuffled(name[1], 5))
            symmetrizer = symmetrizer_of(matrix)
            highest = highest_roots(matrix)[0]
            square = matrices.form(matrix, symmetrizer, highest, highest)
            roots = matrices.all_roots(matrix)
            for other in roots - {highest, tuple(-number for number in highest)}:
                value = value_at(matrix, highest, other)
                self.assertEqual(value * square, 2 * matrices.form(matrix, symmetrizer, highest, other))
                p, q = string_of(matrix, highest, other)
                row = [k for k in range(-9, 10) if added(other, highest, k) in roots]
                self.assertEqual(row, list(range(-p, q + 1)))

    def test_a_root_with_itself_and_its_contrary(self):
        for matrix in SMALL:
            for root in positive_roots(matrix):
                back = tuple(-number for number in root)
                self.assertEqual([value_at(matrix, root, root), value_at(matrix, root, back)], [2, -2])
                for first, second in ((root, root), (root, back), (back, root), (back, back)):
                    with self.assertRaises(InvalidRoot) as caught:
                        string_of(matrix, first, second)
                    self.assertIs(caught.exception.given, second)

    def test_parts_have_nothing_to_do_with_one_another(self):
        self.assertEqual(value_at(APART, (1, 0, 3), (0, 1, 0)), 0)
        self.assertEqual(string_of(APART, (1, 0, 3), (0, -1, 0)), (0, 0))
        self.assertEqual(coroot_of(APART, (0, -1, 0)), (0, -1, 0))


if __name__ == "__main__":
    unittest.main()
