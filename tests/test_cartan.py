import unittest
from functools import lru_cache
from math import gcd

from tests import matrices
from tests.matrices import AFFINE, APART, HUGE, INDEFINITE, SNOW, TWO, WILD
from weylweights.cartan import (
    determinant_of, is_matrix, kinds_of, parts_of, shown_by, symmetrizer_of, times_vector,
)


def kind_shown(numbers):
    """The kind of which these numbers of A u are the proof."""
    if all(number > 0 for number in numbers):
        return "finite"
    if all(number == 0 for number in numbers):
        return "affine"
    if all(number < 0 for number in numbers):
        return "indefinite"
    return None


def plain_determinant(matrix):
    @lru_cache(None)
    def below(row, columns):
        if not columns:
            return 1
        return sum(
            (-1) ** at * matrix[row][j] * below(row + 1, columns[:at] + columns[at + 1:])
            for at, j in enumerate(columns)
        )
    return below(0, tuple(range(len(matrix))))


class Cartan(unittest.TestCase):
    def check_kinds(self, matrix, kinds=None):
        found = kinds_of(matrix)
        vector = shown_by(matrix)
        self.assertIs(type(vector), tuple)
        self.assertEqual(len(vector), len(matrix))
        self.assertTrue(all(type(number) is int and number > 0 for number in vector))
        image = times_vector(matrix, vector)
        shown = tuple(kind_shown([image[node] for node in part]) for part in parts_of(matrix))
        self.assertEqual(found, shown)
        if kinds is not None:
            self.assertEqual(found, kinds)


class Examples(Cartan):
    def test_matrices_and_kinds(self):
        self.assertEqual(
            [is_matrix(TWO), is_matrix(((2, -1), (0, 2))), is_matrix(((1,),)), kinds_of(TWO), kinds_of(SNOW),
             kinds_of(WILD)],
            [True, False, False, ("finite",), ("affine",), ("indefinite",)])

    def test_parts_and_numbers(self):
        self.assertEqual(
            [parts_of(APART), kinds_of(APART), symmetrizer_of(APART), determinant_of(APART), determinant_of(SNOW),
             times_vector(WILD, (5, 4))],
            [((0, 2), (1,)), ("finite", "finite"), (3, 1, 1), 2, 0, (-2, -2)])

    def test_shown(self):
        self.assertTrue(all(number > 0 for number in times_vector(TWO, shown_by(TWO))))
        self.assertEqual(times_vector(SNOW, shown_by(SNOW)), (0, 0))
        self.assertTrue(all(number < 0 for number in times_vector(WILD, shown_by(WILD))))
        self.assertIsNone(symmetrizer_of(((2, -1, -2), (-2, 2, -1), (-1, -2, 2))))


class IsMatrix(unittest.TestCase):
    def test_matrices(self):
        for matrix in [((2,),), *matrices.mixed_finite(), *AFFINE, *INDEFINITE]:
            self.assertIs(is_matrix(matrix), True)

    def test_one_to_eight_rows(self):
        for many in range(0, 12):
            matrix = matrices.from_edges(many, matrices.chain(many))
            self.assertIs(is_matrix(matrix), 1 <= many <= 8)

    def test_others(self):
        deep = ()
        for _ in range(29):
            deep = (deep,)
        for value in (
            None, True, 2, "2", b"2", 2j, (), [], {}, {2}, object(), int, len, deep, ..., range(2),
            (2,), ((),), ([2],), [(2,)], [[2]], ((2, 0),), ((2,), (2,)), ((2, 0), (0,)), ((2, 0), (0, 2, 0)),
            ((2, 0), [0, 2]), ((2, 0), (0, 2), (0, 0)), ((2, 0), None), ((2, 0), "02"),
            ((True,),), ((0,),), ((3,),), ((-2,),), (("2",),), ((None,),), (((2,),),),
            ((2, 1), (1, 2)), ((2, 1), (-1, 2)), ((2, -1), (1, 2)), ((2, 0), (-1, 2)), ((2, -1), (0, 2)),
            ((2, False), (0, 2)), ((2, 0), (False, 2)), ((2, -True), (True, 2)), ((2, -1), (-1, 1)),
            ((2, -1), (-1, True)), ((2, None), (None, 2)), ((2, "-1"), (-1, 2)), ((2, HUGE), (HUGE, 2)),
            ((2, 0, 0), (0, 2, 0), (0, -1, 2)), ((2, -1, 0), (-1, 2, -1), (0, -1, 3)),
        ):
            self.assertIs(is_matrix(value), False, value)
            self.assertIs(is_matrix(value=value), False, value)


class Parts(unittest.TestCase):
    def test_parts(self):
        self.assertEqual(parts_of(((2,),)), ((0,),))
        self.assertEqual(parts_of(matrices.from_edges(8, [])), tuple((node,) for node in range(8)))
        self.assertEqual(parts_of(matrices.from_edges(8, [(0, 7), (7, 3), (1, 6), (2, 5)])),
                         ((0, 3, 7), (1, 6), (2, 5), (4,)))
        self.assertEqual(parts_of(matrices.from_edges(6, [(0, 5), (5, 1), (1, 4), (4, 2), (2, 3)])),
                         ((0, 1, 2, 3, 4, 5),))
        self.assertEqual(parts_of(matrices.from_numbers(3, {(0, 2): -HUGE, (2, 0): -1})), ((0, 2), (1,)))


class Kinds(Cartan):
    def test_finite(self):
        for matrix in matrices.mixed_finite():
            self.check_kinds(matrix, ("finite",) * len(parts_of(matrix)))

    def test_affine(self):
        for at, matrix in enumerate(AFFINE):
            self.check_kinds(matrix, ("affine",))
            self.check_kinds(matrices.reordered(matrix, matrices.shuffled(len(matrix), at)), ("affine",))
            self.assertEqual(determinant_of(matrix), 0)

    def test_indefinite(self):
        for at, matrix in enumerate(INDEFINITE):
            for seed in range(6):
                order = matrices.shuffled(len(matrix), 10 * at + seed)
                self.check_kinds(matrices.reordered(matrix, order), ("indefinite",))

    def test_numbers_stay_of_moderate_size(self):
        for matrix in INDEFINITE:
            self.assertLess(max(shown_by(matrix)), 10 ** 420)

    def test_several_parts(self):
        matrix = matrices.together(WILD, TWO, SNOW, ((2,),))
        self.check_kinds(matrix, ("indefinite", "finite", "affine", "finite"))
        self.check_kinds(matrices.reordered(matrix, (6, 0, 4, 2, 3, 1, 5)),
                         ("finite", "indefinite", "affine", "finite"))

    def test_all_small_ones(self):
        for matrix in matrices.small_matrices(1, 1) + matrices.small_matrices(2, 6):
            self.check_kinds(matrix)
        for matrix in matrices.small_matrices(3, 4):
            self.check_kinds(matrix)

    def test_finite_ones_are_those_of_the_types(self):
        for many, most in ((1, 1), (2, 5), (3, 4), (4, 2)):
            finite = {matrix for matrix in matrices.small_matrices(many, most) if set(kinds_of(matrix)) == {"finite"}}
            expected = matrices.all_finite(many)
            if most < 3:
                expected = {matrix for matrix in expected if min(map(min, matrix)) >= -most}
            self.assertEqual(finite, expected)

    def test_many_of_4_to_8_rows(self):
        seed = 1
        seen = set()
        for _ in range(400):
            numbers = {}
            seed = (seed * 6364136223846793005 + 1442695040888963407) % 2 ** 64
            many = 4 + (seed >> 33) % 5
            for i in range(many):
                for j in range(i):
                    seed = (seed * 6364136223846793005 + 1442695040888963407) % 2 ** 64
                    if (seed >> 33) % 5 < 2:
                        numbers[i, j] = -1 - (seed >> 40) % 10 // 9
                        numbers[j, i] = -1 - (seed >> 50) % 10 // 9
            matrix = matrices.from_numbers(many, numbers)
            self.check_kinds(matrix)
            seen.update(kinds_of(matrix))
        self.assertEqual(seen, {"finite", "affine", "indefinite"})


class TimesVector(unittest.TestCase):
    def test_product(self):
        self.assertEqual(times_vector(((2,),), (-3,)), (-6,))
        self.assertEqual(times_vector(APART, (1, 10, 100)), (-98, 20, 197))
        self.assertEqual(times_vector(matrix=WILD, vector=(0, 1)), (-3, 2))
        self.assertEqual(times_vector(TWO, (HUGE, -HUGE)), (3 * HUGE, -3 * HUGE))

    def test_what_was_returned_may_be_passed(self):
        wide = matrices.from_numbers(8, {(i, j): -HUGE for i in range(8) for j in range(8) if i != j})
        vector = (HUGE,) * 8
        for _ in range(3):
            image = times_vector(wide, vector)
            self.assertEqual(image, tuple((2 - 7 * HUGE) * number for number in vector))
            vector = image


class Symmetrizer(Cartan):
    def check(self, matrix):
        found = symmetrizer_of(matrix)
        self.assertIs(type(found), tuple)
        self.assertEqual(len(found), len(matrix))
        for i, row in enumerate(matrix):
            for j in range(len(matrix)):
                self.assertEqual(found[i] * row[j], found[j] * matrix[j][i])
        for part in parts_of(matrix):
            self.assertEqual(gcd(*[found[node] for node in part]), 1)
        self.assertTrue(all(type(number) is int and number > 0 for number in found))

    def test_finite_and_affine_ones_have_one(self):
        for at, matrix in enumerate([*matrices.mixed_finite(), *AFFINE]):
            self.check(matrix)
            self.check(matrices.reordered(matrix, matrices.shuffled(len(matrix), at)))

    def test_known_ones(self):
        self.assertEqual(symmetrizer_of(((2,),)), (1,))
        self.assertEqual(symmetrizer_of(matrices.G_TWO), (1, 3))
        self.assertEqual(symmetrizer_of(matrices.of_type("B", 4)), (2, 2, 2, 1))
        self.assertEqual(symmetrizer_of(matrices.of_type("C", 4)), (1, 1, 1, 2))
        self.assertEqual(symmetrizer_of(matrices.of_type("F", 4)), (2, 2, 1, 1))
        self.assertEqual(symmetrizer_of(((2, -4), (-6, 2))), (3, 2))
        self.assertEqual(symmetrizer_of(((2, -HUGE), (-1, 2))), (1, HUGE))
        self.assertEqual(symmetrizer_of(matrices.together(matrices.G_TWO, ((2, -4), (-6, 2)))), (1, 3, 3, 2))

    def test_cycles_of_three(self):
        for matrix in matrices.small_matrices(3, 3):
            (_, a, b), (c, _, d), (e, f, _) = matrix
            if a * d * e == c * f * b:
                self.check(matrix)
            else:
                self.assertIsNone(symmetrizer_of(matrix))

    def test_trees_with_huge_numbers_have_one(self):
        numbers = {(k, k + 1): -HUGE - 7 * k for k in range(7)}
        numbers.update({(k + 1, k): -HUGE - 5 * k - 1 for k in range(7)})
        for seed in range(3):
            self.check(matrices.reordered(matrices.from_numbers(8, numbers), matrices.shuffled(8, seed)))

    def test_one_part_without_any(self):
        without = ((2, -1, -2), (-2, 2, -1), (-1, -2, 2))
        self.assertIsNone(symmetrizer_of(matrices.together(TWO, without)))
        self.assertIsNone(symmetrizer_of(matrices.together(without, SNOW)))


class Determinant(unittest.TestCase):
    def test_types(self):
        for at, (letter, many) in enumerate(matrices.TYPES):
            matrix = matrices.of_type(letter, many)
            expected = matrices.determinant_of_type(letter, many)
            self.assertEqual(determinant_of(matrix), expected)
            self.assertEqual(determinant_of(matrices.reordered(matrix, matrices.shuffled(many, at))), expected)

    def test_any(self):
        for matrix in [*matrices.small_matrices(3, 3), *matrices.small_matrices(2, 5), *INDEFINITE, APART]:
            self.assertEqual(determinant_of(matrix), plain_determinant(matrix))

    def test_0_among_the_leading_minors(self):
        all_twice = {(i, j): -2 for i in range(3) for j in range(3) if i != j}
        for matrix in (
            matrices.from_numbers(3, all_twice),
            matrices.from_edges(3, matrices.chain(3), {(0, 1): -2, (1, 0): -2}),
            matrices.from_edges(5, matrices.chain(5) + [(0, 2)]),
            matrices.from_edges(8, matrices.chain(8), {(0, 1): -4, (5, 6): -4, (6, 5): -2}),
            matrices.together(SNOW, WILD, SNOW), matrices.together(SNOW, TWO),
        ):
            self.assertEqual(determinant_of(matrix), plain_determinant(matrix))


if __name__ == "__main__":
    unittest.main()
