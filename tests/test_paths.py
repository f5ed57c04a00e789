import unittest
from fractions import Fraction
from itertools import permutations, product
from math import gcd

from tests import matrices, refusals, small
from tests.matrices import HUGE
from tests.small import A_ONE, A_PAIR, A_TWO, B_TWO, FOUR_ONES, G_TWO
from weylweights.errors import TooMany
from weylweights.paths import (
    end_of, how_high, how_low, is_path, lowered, raised, reflected, straight, top_of, turned_back,
)

EVERY = small.UP_TO_THREE + small.FOUR
ONE, HALF = (1, 1), (1, 2)
INWARD = (((1, -2), HALF), ((-1, 2), HALF))


def some_crystals(most=30, four=30):
    """Triples of a matrix, a highest weight and its paths."""
    found = []
    for matrix in small.SOME + small.SOME_OF_FOUR:
        for weight in small.highest_weights(matrix, most if len(matrix) < 4 else four):
            found.append((matrix, weight, small.in_order(small.crystal(matrix, weight))))
    return found


CRYSTALS = some_crystals()


class Examples(unittest.TestCase):
    def test_lowered_and_raised(self):
        self.assertEqual(
            [straight(A_TWO, (1, 1)), lowered(A_TWO, straight(A_TWO, (1, 1)), 0),
             lowered(A_TWO, (((-1, 2), ONE),), 1) == INWARD, end_of(A_TWO, INWARD), raised(A_TWO, INWARD, 1),
             raised(A_TWO, INWARD, 0)],
            [(((1, 1), (1, 1)),), (((-1, 2), (1, 1)),), True, (0, 0), (((-1, 2), (1, 1)),), None])

    def test_kinds(self):
        self.assertEqual(
            [is_path(A_TWO, INWARD), is_path(A_TWO, INWARD[::-1]), is_path(A_TWO, (((-1, 2), HALF), ((1, 1), HALF))),
             how_low(A_TWO, INWARD, 1), how_high(A_TWO, INWARD, 1), reflected(A_TWO, (((-1, 2), ONE),), 1),
             top_of(A_TWO, INWARD), turned_back(A_TWO, (((1, 0), ONE),))],
            [True, False, False, 1, 1, (((1, -2), (1, 1)),), (1, 1), (((-1, 0), (1, 1)),)])


class Steps(unittest.TestCase):
    def test_lowered_and_raised_by_the_words_of_the_document(self):
        for matrix, _, paths in CRYSTALS:
            for path in paths:
                for node in range(len(matrix)):
                    lower, higher = lowered(matrix, path, node), raised(matrix, path, node)
                    self.assertEqual(lower, small.lowered(matrix, path, node))
                    self.assertEqual(higher, small.raised(matrix, path, node))
                    if lower is not None:
                        self.assertEqual(raised(matrix, lower, node), path)
                        self.assertEqual(small.end(lower), small.added(
                            small.end(path), small.simple_root(matrix, node), -1))
                    if higher is not None:
                        self.assertEqual(lowered(matrix, higher, node), path)

    def test_how_often(self):
        for matrix, _, paths in CRYSTALS[::3]:
            for path in paths:
                for node in range(len(matrix)):
                    for step, many in ((lowered, how_low), (raised, how_high)):
                        times, place = 0, step(matrix, path, node)
                        while place is not None:
                            times, place = times + 1, step(matrix, place, node)
                        self.assertEqual(many(matrix, path, node), times)

    def test_all_least_values_are_whole_and_lead_up_to_the_straight_path(self):
        for matrix, weight, paths in CRYSTALS[::5]:
            for path in paths:
                self.assertEqual(end_of(matrix, path), small.end(path))
                self.assertEqual(top_of(matrix, path), weight)
                for nodes in permutations(range(len(matrix)), min(2, len(matrix))):
                    # at these nodes first, then at any
                    order = nodes + tuple(node for node in range(len(matrix)) if node not in nodes)
                    self.assertEqual(self.raised_as_long_as_it_can_be(matrix, path, order), straight(matrix, weight))

    def raised_as_long_as_it_can_be(self, matrix, path, order):
        at = 0
        while at < len(order):
            self.assertEqual(small.least(path, order[at]).denominator, 1)
            higher = small.raised(matrix, path, order[at])
            path, at = (path, at + 1) if higher is None else (higher, 0)
        return path

    def test_large_steps(self):
        path = straight(A_ONE, (999,))
        self.assertEqual([how_low(A_ONE, path, 0), how_high(A_ONE, path, 0)], [999, 0])
        self.assertEqual(lowered(A_ONE, path, 0), (((-999,), (1, 999)), ((999,), (998, 999))))
        self.assertEqual(reflected(A_ONE, path, 0), (((-999,), ONE),))
        self.assertEqual(raised(A_ONE, (((-999,), ONE),), 0), (((-999,), (998, 999)), ((999,), (1, 999))))
        self.assertIsNone(lowered(A_ONE, (((-999,), ONE),), 0))
        # fractions are told in lowest terms
        self.assertEqual(lowered(A_ONE, (((-6,), (2, 3)), ((6,), (1, 3))), 0), (((-6,), (5, 6)), ((6,), (1, 6))))
        self.assertEqual(lowered(A_ONE, (((-6,), (5, 6)), ((6,), (1, 6))), 0), (((-6,), ONE),))

    def test_weight_0(self):
        for matrix in EVERY:
            path = straight(matrix, small.zero(matrix))
            self.assertEqual(path, ((small.zero(matrix), ONE),))
            self.assertIs(is_path(matrix, path), True)
            for node in range(len(matrix)):
                self.assertIsNone(lowered(matrix, path, node))
                self.assertIsNone(raised(matrix, path, node))
                self.assertEqual([how_low(matrix, path, node), how_high(matrix, path, node)], [0, 0])
                self.assertEqual(reflected(matrix, path, node), path)
            self.assertEqual(turned_back(matrix, path), path)
            self.assertEqual([end_of(matrix, path), top_of(matrix, path)], [small.zero(matrix)] * 2)


class Reflected(unittest.TestCase):
    def test_by_the_end(self):
        for matrix, _, paths in CRYSTALS[::2]:
            for path in paths:
                for node in range(len(matrix)):
                    number = small.end(path)[node]
                    place = path
                    for _ in range(abs(number)):
                        place = (small.lowered if number > 0 else small.raised)(matrix, place, node)
                    self.assertEqual(reflected(matrix, path, node), place)
                    self.assertEqual(reflected(matrix, place, node), path)
                    self.assertEqual(small.end(place), matrices.weight_reflection(matrix, node, small.end(path)))

    def test_the_weyl_group_acts(self):
        # rows of reflections for one element, by the order of the product of two
        orders = {0: 2, 1: 3, 2: 4, 3: 6}
        for matrix, _, paths in CRYSTALS[::3]:
            for path in paths:
                for i in range(len(matrix)):
                    for j in range(i):
                        word = (i, j) * orders[matrix[i][j] * matrix[j][i]]
                        place = path
                        for node in word:
                            place = reflected(matrix, place, node)
                        self.assertEqual(place, path)


class TurnedBack(unittest.TestCase):
    def test_it_is_one_of_the_dual(self):
        for matrix, weight, paths in CRYSTALS[::2]:
            dual = max(small.orbit(matrix, tuple(-number for number in weight)), key=min)
            for path in paths:
                back = turned_back(matrix, path)
                self.assertEqual(back, tuple((tuple(-number for number in place), length)
                                             for place, length in reversed(path)))
                self.assertEqual(top_of(matrix, back), dual)
                self.assertEqual(turned_back(matrix, back), path)
                for node in range(len(matrix)):
                    higher = raised(matrix, path, node)
                    self.assertEqual(lowered(matrix, back, node), higher and turned_back(matrix, higher))


class IsPath(unittest.TestCase):
    def test_all_of_a_crystal_and_no_others_with_small_fractions(self):
        for matrix, weights, parts in ((A_TWO, ((1, 0), (1, 1), (2, 0), (2, 1)), 3), (B_TWO, ((0, 1), (1, 0), (1, 1)), 4),
                                       (G_TWO, ((1, 0), (0, 1)), 3), (A_ONE, ((1,), (2,), (3,), (4,)), 6),
                                       (A_PAIR, ((1, 1), (2, 1)), 4)):
            for weight in weights:
                self.check_all(matrix, weight, parts)

    def check_all(self, matrix, weight, parts):
        """All rows of weights of the orbit with lengths of whole numbers of parts, of up to three steps."""
        paths = small.crystal(matrix, weight)
        orbit = sorted(small.orbit(matrix, weight))
        found = set()
        for many in (1, 2, 3):
            for numbers in product(range(1, parts + 1), repeat=many):
                if sum(numbers) == parts:
                    lengths = [(n // gcd(n, parts), parts // gcd(n, parts)) for n in numbers]
                    for places in product(orbit, repeat=many):
                        value = tuple(zip(places, lengths))
                        self.assertIs(is_path(matrix, value), value in paths, value)
                        found.add(value)
        self.assertTrue(found & paths and found - paths)

    def test_paths_that_are_none_but_for_one_bent_place(self):
        for matrix, _, paths in CRYSTALS[::4]:
            every = set(paths)
            for path in paths:
                self.assertIs(is_path(matrix, path), True)
                for value in self.bent(matrix, path):
                    self.assertIs(is_path(matrix, value), value in every, value)

    def bent(self, matrix, path):
        """The path with one of its weights or lengths changed."""
        for at, (weight, length) in enumerate(path):
            for node in range(len(matrix)):
                image = matrices.weight_reflection(matrix, node, weight)
                yield (*path[:at], (image, length), *path[at + 1:])
            yield path[:at] + path[at + 1:]
            for many in (2, 3, 7):
                first = Fraction(*length) / many
                rest = Fraction(*length) - first
                pieces = [(part.numerator, part.denominator) for part in (first, rest)]
                image = matrices.weight_reflection(matrix, 0, weight)
                yield (*path[:at], (image, pieces[0]), (weight, pieces[1]), *path[at + 1:])
                yield (*path[:at], (weight, pieces[0]), (image, pieces[1]), *path[at + 1:])
                yield (*path[:at], (weight, pieces[0]), (weight, pieces[1]), *path[at + 1:])
            if at > 0:
                before = path[at - 1]
                yield (*path[:at - 1], (before[0], length), (weight, before[1]), *path[at + 1:])
                yield (*path[:at - 1], path[at], before, *path[at + 1:])

    def test_whatever_it_is(self):
        for value in refusals.NO_PATHS:
            with self.subTest(value=value):
                self.assertIs(is_path(B_TWO, value), False)
                self.assertIs(is_path(value=value, matrix=B_TWO), False)

    def test_lengths_in_lowest_terms(self):
        good = (((-2,), HALF), ((2,), HALF))
        self.assertIs(is_path(A_ONE, good), True)
        for lengths in (((2, 4), HALF), (HALF, (2, 4)), (HALF, (-1, -2)), ((1, 2), (1, 3)), ((3, 2), (-1, 2)),
                        ((HUGE, 2 * HUGE), HALF), (HALF, (0, 1)), (ONE, (0, 1)), ((0, 1), ONE), (HALF, (1, 0))):
            self.assertIs(is_path(A_ONE, tuple(zip(((-2,), (2,)), lengths))), False)
        for value in ((((2,), (2, 2)),), (((2,), (True, 1)),), (((2,), (1, True)),), (((2,), 1),), (((2,), [1, 1]),)):
            self.assertIs(is_path(A_ONE, value), False)

    def test_great_fractions(self):
        many = HUGE * 2
        self.assertIs(is_path(A_ONE, (((-2,), (1, many)), ((2,), (many - 1, many)))), False)
        self.assertIs(is_path(A_ONE, tuple(((2 if k % 2 else -2,), (1, 400)) for k in range(400))), False)
        self.assertIs(is_path(A_ONE, (((-3,), (1, 3)), ((3,), (2, 3)))), True)
        self.assertIs(is_path(A_ONE, (((3,), (2, 3)), ((-3,), (1, 3)))), False)
        self.assertIs(is_path(A_PAIR, (((1, -1), (1, 1)),)), True)

    def test_highest_weights_of_dimensions_of_1000_and_above(self):
        for matrix, weight in ((A_ONE, (999,)), (A_TWO, (9, 9)), (FOUR_ONES, (9, 9, 9, 0))):
            for place in sorted(small.orbit(matrix, weight)):
                self.assertIs(is_path(matrix, ((place, ONE),)), True)
            self.assertEqual(straight(matrix, weight), ((weight, ONE),))
        for matrix, weight, many in ((A_ONE, (1000,), 1001), (A_TWO, (10, 9), 1155), (FOUR_ONES, (0, 999, 1, 0), 2000),
                                     (A_ONE, (HUGE,), HUGE + 1)):
            for place in sorted(small.orbit(matrix, weight)):
                self.assertIs(is_path(matrix, ((place, ONE),)), False)
            with self.assertRaises(TooMany) as caught:
                straight(matrix, weight)
            self.assertEqual(caught.exception.given, many)

    def test_the_matrix_tells(self):
        self.assertIs(is_path(B_TWO, INWARD), True)
        self.assertEqual([top_of(A_TWO, INWARD), top_of(B_TWO, INWARD)], [(1, 1), (1, 0)])
        self.assertIs(is_path(G_TWO, INWARD), False)
        self.assertIs(is_path(A_PAIR, INWARD), False)
        self.assertIs(is_path(matrices.reordered(A_TWO, (1, 0)), INWARD), True)
        self.assertIs(is_path(A_ONE, INWARD), False)
        self.assertIs(is_path(value=(((0, -1), ONE),), matrix=A_TWO), True)


if __name__ == "__main__":
    unittest.main()
