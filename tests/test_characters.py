import unittest

from tests import matrices, small
from tests.matrices import HUGE
from tests.small import A_ONE, A_PAIR, A_TWO, B_TWO, FOUR_ONES, G_TWO
from weylweights.characters import count_in, dimension, table_of
from weylweights.errors import InvalidWeight, TooMany
from weylweights.weights import dominant_below, orbit

EVERY = small.UP_TO_THREE + sorted(matrices.all_finite(4))


def some_highest(matrix):
    """Highest weights, so that all go fast together."""
    return small.highest_weights(matrix, {1: 30, 2: 90, 3: 60, 4: 30}[len(matrix)])


class Examples(unittest.TestCase):
    def test_dimensions(self):
        self.assertEqual(
            [dimension(A_TWO, (1, 1)), dimension(A_TWO, (2, 2)),
             [dimension(B_TWO, each) for each in ((1, 0), (0, 1), (0, 2), (1, 1), (2, 0))], dimension(A_ONE, (9999,))],
            [8, 27, [5, 4, 10, 16, 14], 10000])

    def test_tables(self):
        self.assertEqual(
            [table_of(A_TWO, (1, 1)), table_of(B_TWO, (1, 0)), count_in(A_TWO, (2, 2), (0, 0)),
             count_in(B_TWO, (0, 1), (0, 0))],
            [(((-2, 1), 1), ((-1, -1), 1), ((-1, 2), 1), ((0, 0), 2), ((1, -2), 1), ((1, 1), 1), ((2, -1), 1)),
             (((-1, 0), 1), ((-1, 2), 1), ((0, 0), 1), ((1, -2), 1), ((1, 0), 1)), 3, 0])


class Dimension(unittest.TestCase):
    def test_by_forms(self):
        for matrix in EVERY:
            many = len(matrix)
            for weight in (small.zero(matrix), small.rho(matrix), (7, 0, 3, 1)[:many], (0, 2, 0, 5)[:many],
                           (HUGE, 0, HUGE, 1)[:many]):
                self.assertEqual(dimension(matrix, weight), small.dimension(matrix, weight))
            self.assertEqual(dimension(matrix, small.zero(matrix)), 1)
            self.assertEqual(dimension(matrix, small.rho(matrix)), 2 ** len(small.positive_roots(matrix)))

    def test_by_hand(self):
        for a in range(5):
            for b in range(5):
                self.assertEqual(dimension(A_TWO, (a, b)), (a + 1) * (b + 1) * (a + b + 2) // 2)
                self.assertEqual(dimension(B_TWO, (a, b)), (a + 1) * (b + 1) * (2 * a + b + 3) * (a + b + 2) // 6)
                self.assertEqual(dimension(A_PAIR, (a, b)), (a + 1) * (b + 1))
        self.assertEqual([dimension(G_TWO, each) for each in ((1, 0), (0, 1), (2, 0), (1, 1))], [7, 14, 27, 64])
        four = matrices.of_type("F", 4)
        self.assertEqual([dimension(four, small.unit(four, node)) for node in range(4)], [52, 1274, 273, 26])
        self.assertEqual([dimension(matrices.of_type(letter, 4), (0, 0, 0, 1)) for letter in "ABCD"], [5, 16, 42, 8])

    def test_many_digits(self):
        self.assertEqual(dimension(A_ONE, (HUGE,)), HUGE + 1)
        self.assertEqual(dimension(A_TWO, (HUGE, HUGE)), (HUGE + 1) ** 3)
        self.assertEqual(dimension(weight=(HUGE, 0, 1, HUGE), matrix=FOUR_ONES), 2 * (HUGE + 1) ** 2)


class Tables(unittest.TestCase):
    def test_weyls_character_formula(self):
        # the table times the alternating sum over the orbit of rho tells the table alone
        for matrix in small.UP_TO_THREE + small.FOUR:
            denominator = small.signed_orbit(matrix, small.rho(matrix))
            for weight in some_highest(matrix):
                self.check_formula(matrix, weight, denominator)

    def test_large_ones(self):
        four = matrices.of_type("F", 4)
        for matrix, weight in ((four, (1, 0, 0, 0)), (four, (0, 0, 1, 0)), (A_TWO, (9, 9)), (A_ONE, (999,)),
                               (G_TWO, (3, 1)), (matrices.of_type("C", 3), (1, 1, 1)), (FOUR_ONES, (3, 0, 4, 2)),
                               (matrices.of_type("D", 4), (1, 0, 1, 1)), (matrices.of_type("B", 4), (0, 1, 0, 1))):
            self.check_formula(matrix, weight, small.signed_orbit(matrix, small.rho(matrix)))

    def check_formula(self, matrix, weight, denominator):
        table = table_of(matrix, weight)
        self.assertIs(type(table), tuple)
        self.assertEqual(small.times(table, denominator),
                         small.signed_orbit(matrix, small.added(weight, small.rho(matrix))))
        self.assertEqual(sum(count for _, count in table), dimension(matrix, weight))
        self.assertEqual(table, tuple(sorted(table)))
        self.assertEqual(len(dict(table)), len(table))
        self.assertTrue(all(count > 0 for _, count in table))

    def test_counts_are_alike_along_orbits_and_stand_at_the_dominant_weights_below(self):
        for matrix in small.UP_TO_THREE + small.FOUR[::4]:
            for weight in some_highest(matrix)[::3]:
                counts = dict(table_of(matrix, weight))
                self.assertEqual(tuple(sorted(place for place in counts if min(place) >= 0)),
                                 dominant_below(matrix, weight))
                for dominant in dominant_below(matrix, weight):
                    self.assertEqual({counts.get(place) for place in orbit(matrix, dominant)}, {counts[dominant]})

    def test_the_adjoint_one(self):
        for letter, many in (("A", 1), ("A", 2), ("A", 4), ("B", 2), ("B", 3), ("C", 3), ("D", 4), ("F", 4), ("G", 2)):
            matrix = matrices.of_type(letter, many)
            roots = {tuple(matrices.values_at(matrix, root)): 1 for root in matrices.all_roots(matrix)}
            highest = max(matrices.all_roots(matrix), key=sum)
            self.assertEqual(dict(table_of(matrix, tuple(matrices.values_at(matrix, highest)))),
                             {**roots, small.zero(matrix): many})

    def test_count_in_tells_the_counts_of_the_table(self):
        for matrix in small.SOME + small.SOME_OF_FOUR:
            for weight in some_highest(matrix)[-2:]:
                counts = dict(table_of(matrix, weight))
                for place, count in counts.items():
                    self.assertEqual(count_in(matrix, weight, place), count)
                    for node in range(len(matrix)):
                        step = small.added(place, small.unit(matrix, node))
                        self.assertEqual(count_in(matrix, weight, step), counts.get(step, 0))
                        step = small.added(place, small.simple_root(matrix, node))
                        self.assertEqual(count_in(matrix, weight, step), counts.get(step, 0))

    def test_count_in_of_weights_of_many_digits(self):
        for other in ((HUGE, 0), (-HUGE, HUGE), (3 * HUGE, -HUGE), (-3 * HUGE, 0)):
            self.assertEqual(count_in(A_TWO, (1, 1), other), 0)

    def test_weight_0(self):
        for matrix in EVERY:
            nought = small.zero(matrix)
            self.assertEqual(table_of(matrix, nought), ((nought, 1),))
            self.assertEqual(count_in(matrix, nought, nought), 1)
            self.assertEqual(count_in(matrix, nought, small.rho(matrix)), 0)

    def test_several_parts_are_products(self):
        table = table_of(A_PAIR, (2, 1))
        self.assertEqual(table, tuple(((a, b), 1) for a in (-2, 0, 2) for b in (-1, 1)))
        self.assertEqual(dict(table_of(matrices.together(A_TWO, A_ONE), (1, 1, 1))),
                         {(*place, b): count for place, count in table_of(A_TWO, (1, 1)) for b in (-1, 1)})


class Limits(unittest.TestCase):
    def test_dimensions_of_1000_and_above(self):
        for function in (lambda matrix, weight: table_of(matrix, weight), dominant_below,
                         lambda matrix, weight: count_in(matrix, weight, small.zero(matrix))):
            for matrix, weight in ((A_ONE, (999,)), (A_TWO, (9, 9)), (FOUR_ONES, (9, 9, 9, 0))):
                self.assertEqual(dimension(matrix, weight), 1000)
                function(matrix, weight)
            for matrix, weight, many in ((A_ONE, (1000,), 1001), (A_TWO, (10, 8), 990), (A_TWO, (43, 1), 2024),
                                         (FOUR_ONES, (12, 10, 6, 0), 1001), (A_ONE, (HUGE,), HUGE + 1),
                                         (matrices.of_type("F", 4), (1, 0, 0, 1), 1053)):
                self.assertEqual(dimension(matrix, weight), many)
                if many > 1000:
                    with self.assertRaises(TooMany) as caught:
                        function(matrix, weight)
                    self.assertEqual(caught.exception.given, many)

    def test_not_dominant_comes_ahead_of_too_great(self):
        for weight in ((-1, 5), (5000, -1), (-HUGE, HUGE)):
            for function in (dimension, table_of, dominant_below):
                with self.assertRaises(InvalidWeight) as caught:
                    function(A_TWO, weight)
                self.assertIs(caught.exception.given, weight)


if __name__ == "__main__":
    unittest.main()
