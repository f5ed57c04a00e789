import unittest
from fractions import Fraction
from itertools import product
from math import gcd

from tests import matrices, small
from tests.matrices import HUGE
from tests.small import A_ONE, A_PAIR, A_TWO, B_TWO, G_TWO
from weylweights.weights import dominant_below, dominant_of, is_below, is_weight, orbit, root_coordinates

EVERY = small.UP_TO_THREE + sorted(matrices.all_finite(4))


def some_weights(matrix, most=2):
    """Weights with small numbers; fewer for more rows."""
    numbers = range(-most, most + 1) if len(matrix) < 3 else (-1, 0, 2)
    return list(product(numbers, repeat=len(matrix)))


def made_of(matrix, coordinates):
    """The weight that the simple roots make by these numbers."""
    return tuple(sum(Fraction(a) * x for a, x in zip(row, coordinates)) for row in matrix)


class Examples(unittest.TestCase):
    def test_weights(self):
        self.assertEqual(
            [is_weight(A_TWO, (1, -3)), is_weight(A_TWO, (1,)), root_coordinates(A_TWO, (1, 0)),
             root_coordinates(B_TWO, (1, 0))],
            [True, False, ((2, 3), (1, 3)), ((1, 1), (1, 1))])

    def test_orders(self):
        self.assertEqual(
            [orbit(B_TWO, (0, 1)), dominant_of(B_TWO, (-1, 1)), is_below(B_TWO, (0, 0), (1, 0)),
             is_below(B_TWO, (0, 0), (0, 1)), dominant_below(A_TWO, (1, 1)), dominant_below(B_TWO, (1, 1))],
            [((-1, 1), (0, -1), (0, 1), (1, -1)), (0, 1), True, False, ((0, 0), (1, 1)), ((0, 1), (1, 1))])


class IsWeight(unittest.TestCase):
    def test_whatever_it_is(self):
        for value in (None, True, 0, 3, "", "10", b"\x00\x01", [], [1, 0], {}, {1, 0}, object(), int, (), (1,), (1, 0, 0),
                      (True, 0), (0, False), ("1", 0), (1, None), ((1, 0),), ((1,), (0,)), (1, [0]), ((), ())):
            self.assertIs(is_weight(A_TWO, value), False)
        for value in ((0, 0), (1, -3), (HUGE, -HUGE), (-1, -1)):
            self.assertIs(is_weight(A_TWO, value), True)
        self.assertIs(is_weight(value=(5,), matrix=A_ONE), True)


class RootCoordinates(unittest.TestCase):
    def test_simple_roots_make_the_weight(self):
        for matrix in EVERY:
            for weight in some_weights(matrix):
                coordinates = root_coordinates(matrix, weight)
                self.assertIs(type(coordinates), tuple)
                for pair in coordinates:
                    n, m = pair
                    self.assertIs(type(pair), tuple)
                    self.assertEqual((type(n), type(m), gcd(n, m)), (int, int, 1))
                    self.assertGreater(m, 0)
                self.assertEqual(made_of(matrix, [Fraction(n, m) for n, m in coordinates]), weight)

    def test_by_hand(self):
        self.assertEqual(root_coordinates(A_ONE, (-3,)), ((-3, 2),))
        self.assertEqual(root_coordinates(A_TWO, (0, 0)), ((0, 1), (0, 1)))
        self.assertEqual(root_coordinates(G_TWO, (1, 0)), ((2, 1), (1, 1)))
        self.assertEqual(root_coordinates(A_PAIR, (1, -4)), ((1, 2), (-2, 1)))

    def test_many_digits(self):
        self.assertEqual(root_coordinates(A_ONE, (2 * HUGE,)), ((HUGE, 1),))
        self.assertEqual(root_coordinates(A_TWO, (HUGE, -HUGE)),
                         tuple((n.numerator, n.denominator) for n in (Fraction(HUGE, 3), Fraction(-HUGE, 3))))


class IsBelow(unittest.TestCase):
    def test_by_root_coordinates(self):
        for matrix in small.ALL_SMALL:
            weights = some_weights(matrix)
            for weight in weights[::4]:
                for other in weights[::5]:
                    less = [Fraction(n, m) for n, m in root_coordinates(matrix, small.added(other, weight, -1))]
                    expected = all(x.denominator == 1 and x >= 0 for x in less)
                    self.assertIs(is_below(matrix, weight, other), expected)

    def test_edges(self):
        for matrix in small.ALL_SMALL:
            nought = small.zero(matrix)
            self.assertIs(is_below(matrix, nought, nought), True)
            for node in range(len(matrix)):
                step = small.simple_root(matrix, node)
                self.assertIs(is_below(matrix, nought, step), True)
                self.assertIs(is_below(matrix, step, nought), False)
                start = small.added(nought, small.rho(matrix), HUGE)
                self.assertIs(is_below(matrix, start, small.added(start, step, HUGE)), True)
                self.assertIs(is_below(matrix, start, small.added(start, step, -HUGE)), False)
        self.assertIs(is_below(A_TWO, (1, 0), (2, 0)), False)
        self.assertIs(is_below(weight=(-1,), other=(1,), matrix=A_ONE), True)
        self.assertIs(is_below(A_ONE, (0,), (1,)), False)
        # one number up, one down
        self.assertIs(is_below(A_PAIR, (0, 0), (2, -2)), False)


class Orbits(unittest.TestCase):
    def test_orbits_and_their_dominant_weights(self):
        for matrix in EVERY:
            for weight in some_weights(matrix)[::len(matrix) ** 2]:
                places = small.orbit(matrix, weight)
                self.assertEqual(orbit(matrix, weight), tuple(sorted(places)))
                dominant = dominant_of(matrix, weight)
                self.assertEqual([place for place in places if min(place) >= 0], [dominant])
                for place in sorted(places)[::5 * len(matrix)]:
                    self.assertEqual(dominant_of(matrix, place), dominant)
                    self.assertIs(is_below(matrix, place, dominant), True)

    def test_sizes(self):
        four = matrices.of_type("F", 4)
        self.assertEqual(len(orbit(four, (1, 1, 1, 1))), 1152)
        self.assertEqual(len(orbit(four, (0, 0, 0, 1))), 24)
        self.assertEqual(len(orbit(matrices.of_type("B", 4), (1, 2, 3, 4))), 384)
        self.assertEqual(orbit(four, (0, 0, 0, 0)), ((0, 0, 0, 0),))

    def test_many_digits(self):
        self.assertEqual(orbit(A_ONE, (HUGE,)), ((-HUGE,), (HUGE,)))
        self.assertEqual(dominant_of(A_TWO, (-HUGE, -1)), (1, HUGE))
        self.assertEqual(dominant_of(G_TWO, (-HUGE, 0)), (HUGE, 0))
        for matrix in small.SOME_OF_FOUR:
            weight = tuple(-HUGE * (k + 1) for k in range(4))
            self.assertEqual([each for each in orbit(matrix, weight) if min(each) >= 0], [dominant_of(matrix, weight)])


class DominantBelow(unittest.TestCase):
    def test_by_trying_all(self):
        for matrix in small.UP_TO_THREE + small.FOUR[::3]:
            for weight in small.highest_weights(matrix, 60 if len(matrix) < 4 else 30):
                whole = [int(Fraction(n, m)) for n, m in root_coordinates(matrix, weight)]
                expected = set()
                for numbers in product(*[range(most + 1) for most in whole]):
                    place = weight
                    for node, number in enumerate(numbers):
                        place = small.added(place, small.simple_root(matrix, node), -number)
                    if min(place) >= 0:
                        expected.add(place)
                self.assertEqual(dominant_below(matrix, weight), tuple(sorted(expected)))

    def test_edges(self):
        self.assertEqual(dominant_below(A_ONE, (999,)), tuple((k,) for k in range(1, 1000, 2)))
        self.assertEqual(dominant_below(A_ONE, (0,)), ((0,),))
        self.assertEqual(dominant_below(A_TWO, (0, 3)), ((0, 0), (0, 3), (1, 1)))
        self.assertEqual(dominant_below(A_PAIR, (2, 3)), ((0, 1), (0, 3), (2, 1), (2, 3)))


if __name__ == "__main__":
    unittest.main()
