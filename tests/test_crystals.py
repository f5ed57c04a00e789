import unittest
from itertools import combinations, product as all_choices

from tests import matrices, small
from tests.small import A_ONE, A_PAIR, A_TWO, B_TWO, FOUR_ONES, G_TWO
from weylweights.characters import dimension, table_of
from weylweights.crystals import crystal, demazure, demazure_paths, product_by_paths, restricted_by_paths
from weylweights.errors import InvalidWord, TooMany
from weylweights.levis import restricted
from weylweights.paths import end_of, is_path, lowered
from weylweights.products import product
from weylweights.tables import sum_of, table_times
from weylweights.weyl import least_word, longest

EVERY = small.UP_TO_THREE + small.FOUR
ONE = (1, 1)


def some_words(many, lengths):
    seed = 11
    words = []
    for length in lengths:
        word = []
        for _ in range(length):
            seed = (seed * 6364136223846793005 + 1442695040888963407) % 2 ** 64
            word.append((seed >> 33) % many)
        words.append(tuple(word))
    return words


class Examples(unittest.TestCase):
    def test_crystals(self):
        self.assertEqual(
            [crystal(A_TWO, (1, 0)), len(crystal(B_TWO, (1, 1))), product_by_paths(B_TWO, (0, 1), (0, 1)),
             restricted_by_paths(B_TWO, (0,), (0, 1))],
            [((((-1, 1), (1, 1)),), (((0, -1), (1, 1)),), (((1, 0), (1, 1)),)), 16,
             (((0, 0), 1), ((0, 2), 1), ((1, 0), 1)), (((0,), 2), ((1,), 1))])

    def test_demazure(self):
        self.assertEqual(
            [demazure(A_TWO, (1, 1), (1, 0)), len(demazure_paths(A_TWO, (1, 1), (0,))),
             demazure(A_TWO, (1, 1), (0, 1, 0)) == table_of(A_TWO, (1, 1))],
            [(((-1, 2), 1), ((0, 0), 1), ((1, -2), 1), ((1, 1), 1), ((2, -1), 1)), 2, True])


class Crystals(unittest.TestCase):
    def test_by_the_words_of_the_document(self):
        for matrix in EVERY:
            for weight in small.highest_weights(matrix, {1: 20, 2: 60, 3: 30, 4: 16}[len(matrix)]):
                paths = crystal(matrix, weight)
                self.assertEqual(paths, small.in_order(small.crystal(matrix, weight)))
                self.check_counts(matrix, weight, paths)

    def check_counts(self, matrix, weight, paths):
        self.assertEqual(len(paths), dimension(matrix, weight))
        ends = {}
        for path in paths:
            ends[small.end(path)] = ends.get(small.end(path), 0) + 1
        self.assertEqual(small.pairs(ends), table_of(matrix, weight))

    def test_large_ones(self):
        for matrix, weight in ((A_ONE, (999,)), (A_TWO, (9, 9)), (G_TWO, (2, 1)), (matrices.of_type("F", 4), (0, 0, 1, 0)),
                               (matrices.of_type("D", 4), (0, 1, 0, 1)), (FOUR_ONES, (2, 3, 1, 2)),
                               (matrices.of_type("C", 4), (0, 1, 0, 1))):
            paths = crystal(matrix, weight)
            self.check_counts(matrix, weight, paths)
            self.assertEqual(paths, small.in_order(paths))
            for path in paths[::29]:
                self.assertIs(is_path(matrix, path), True)
                for node in range(len(matrix)):
                    self.assertEqual(lowered(matrix, path, node), small.lowered(matrix, path, node))

    def test_order(self):
        # lengths are compared as Python compares tuples, not as numbers
        paths = crystal(A_ONE, (12,))
        self.assertEqual(paths[:12], tuple(sorted(paths[:12], key=lambda path: [length for _, length in path])))
        bent = [path for path in paths if len(path) == 2]
        self.assertEqual([path[0][1] for path in bent],
                         [(1, 2), (1, 3), (1, 4), (1, 6), (1, 12), (2, 3), (3, 4), (5, 6), (5, 12), (7, 12), (11, 12)])
        self.assertEqual([paths[0], paths[-1]], [(((-12,), ONE),), (((12,), ONE),)])

    def test_weight_0(self):
        for matrix in EVERY:
            nought = small.zero(matrix)
            path = ((nought, ONE),)
            self.assertEqual(crystal(matrix, nought), (path,))
            self.assertEqual(demazure(matrix, nought, tuple(range(len(matrix)))), ((nought, 1),))
            self.assertEqual(demazure_paths(matrix, nought, tuple(range(len(matrix)))), (path,))
            self.assertEqual(product_by_paths(matrix, nought, nought), ((nought, 1),))


class Products(unittest.TestCase):
    def test_three_ways_are_one(self):
        for matrix in EVERY:
            weights = small.highest_weights(matrix, 27)
            for weight in weights[:5]:
                for other in weights[-4:]:
                    made = product(matrix, ((weight, 1),), ((other, 1),))
                    self.assertEqual(product_by_paths(matrix, weight, other), made)
                    self.assertEqual(product_by_paths(matrix, other, weight), made)
                    self.assertEqual(sum_of(matrix, table_times(
                        matrix, table_of(matrix, weight), table_of(matrix, other))), made)

    def test_edges(self):
        for matrix in small.SOME + small.SOME_OF_FOUR:
            for weight in small.highest_weights(matrix, 30):
                self.assertEqual(product_by_paths(matrix, weight, small.zero(matrix)), ((weight, 1),))
                self.assertEqual(product_by_paths(matrix, small.zero(matrix), weight), ((weight, 1),))
        self.assertEqual(product_by_paths(A_ONE, (999,), (2,)), (((997,), 1), ((999,), 1), ((1001,), 1)))
        self.assertEqual(product_by_paths(A_ONE, (2,), (999,)), (((997,), 1), ((999,), 1), ((1001,), 1)))
        self.assertEqual(product_by_paths(A_TWO, (9, 9), (9, 9)), product(A_TWO, (((9, 9), 1),), (((9, 9), 1),)))
        for weight, other, many in (((1000,), (1,), 1001), ((1,), (1001,), 1002), ((1000,), (1001,), 1001)):
            with self.assertRaises(TooMany) as caught:
                product_by_paths(A_ONE, weight, other)
            self.assertEqual(caught.exception.given, many)


class Restrictions(unittest.TestCase):
    def test_as_by_the_table(self):
        for matrix in EVERY:
            for weight in small.highest_weights(matrix, 27)[::len(matrix)]:
                for many in range(1, len(matrix) + 1):
                    for nodes in combinations(range(len(matrix)), many):
                        self.assertEqual(restricted_by_paths(matrix, nodes, weight),
                                         restricted(matrix, nodes, ((weight, 1),)))

    def test_edges(self):
        self.assertEqual(restricted_by_paths(A_ONE, (0,), (999,)), (((999,), 1),))
        self.assertEqual(restricted_by_paths(A_PAIR, (1,), (499, 1)), (((1,), 500),))
        self.assertEqual(restricted_by_paths(A_TWO, (0, 1), (9, 9)), (((9, 9), 1),))


class Demazure(unittest.TestCase):
    def test_by_operators_term_by_term(self):
        for matrix in small.SOME:
            for weight in small.highest_weights(matrix, 30)[::len(matrix)]:
                for many in range(4 if len(matrix) < 3 else 3):
                    for word in all_choices(range(len(matrix)), repeat=many):
                        self.assertEqual(demazure(matrix, weight, word), small.demazure(matrix, weight, word))
                        self.assertEqual(demazure_paths(matrix, weight, word),
                                         small.demazure_paths(matrix, weight, word))

    def test_reduced_words_of_one_element(self):
        for matrix in small.SOME:
            weights = [small.rho(matrix), *small.highest_weights(matrix, 30)[1:4]]
            longest_of_all = len(longest(matrix)) if len(matrix) < 3 else 4
            for words in small.words_of_elements(matrix, longest_of_all).values():
                least = least_word(matrix, words[0])
                reduced = [word for word in words if len(word) == len(least)]
                for weight in weights:
                    if dimension(matrix, weight) <= 1000:
                        table, paths = demazure(matrix, weight, least), demazure_paths(matrix, weight, least)
                        self.check_ends(matrix, paths, table)
                        for word in reduced[:5]:
                            self.assertEqual(demazure(matrix, weight, word), table)
                            self.assertEqual(demazure_paths(matrix, weight, word), paths)

    def check_ends(self, matrix, paths, table):
        ends = {}
        for path in paths:
            ends[end_of(matrix, path)] = ends.get(end_of(matrix, path), 0) + 1
        self.assertEqual(small.pairs(ends), table)

    def test_the_longest_element(self):
        for matrix in EVERY:
            for weight in small.highest_weights(matrix, {1: 20, 2: 60, 3: 30, 4: 30}[len(matrix)])[-3:]:
                word = longest(matrix)
                self.assertEqual(demazure(matrix, weight, word), table_of(matrix, weight))
                self.assertEqual(demazure_paths(matrix, weight, word), crystal(matrix, weight))
                self.assertEqual(demazure(matrix, weight, word + word), table_of(matrix, weight))

    def test_reduced_words_in_four_nodes(self):
        for matrix in small.SOME_OF_FOUR:
            weight = small.unit(matrix, 1)
            for word in some_words(4, (3, 5, 8, 12)):
                least = least_word(matrix, word)
                if dimension(matrix, weight) <= 1000:
                    self.check_ends(matrix, demazure_paths(matrix, weight, least), demazure(matrix, weight, least))
                    self.assertEqual(demazure(matrix, weight, least), small.demazure(matrix, weight, least))

    def test_the_empty_word(self):
        for matrix in EVERY:
            for weight in small.highest_weights(matrix, 30):
                self.assertEqual(demazure(matrix, weight, ()), ((weight, 1),))
                self.assertEqual(demazure_paths(matrix, weight, ()), (((weight, ONE),),))

    def test_words_that_are_not_reduced(self):
        for matrix in small.SOME + small.SOME_OF_FOUR[:2]:
            weight = small.highest_weights(matrix, 30)[-1]
            for word in some_words(len(matrix), (2, 4, 7, 11)):
                word = word + word[-1:] + word
                self.assertEqual(demazure(matrix, weight, word), small.demazure(matrix, weight, word))
                self.assertEqual(demazure_paths(matrix, weight, word), small.demazure_paths(matrix, weight, word))

    def test_words_of_300_and_of_301_nodes(self):
        for matrix, weight in ((A_ONE, (999,)), (A_TWO, (9, 9)), (G_TWO, (2, 0)), (FOUR_ONES, (1, 2, 1, 2))):
            word = tuple(range(len(matrix))) * (300 // len(matrix))
            self.assertEqual(len(word), 300)
            self.assertEqual(demazure(matrix, weight, word), table_of(matrix, weight))
            self.assertEqual(demazure_paths(matrix, weight, word), crystal(matrix, weight))
            for function in (demazure, demazure_paths):
                with self.assertRaises(InvalidWord) as caught:
                    function(matrix, weight, (*word, 0))
                self.assertEqual(caught.exception.given, (*word, 0))
        word = (0,) * 300
        self.assertEqual(demazure(A_TWO, (1, 1), word), demazure(A_TWO, (1, 1), (0,)))
        self.assertEqual(demazure_paths(A_TWO, (1, 1), word), demazure_paths(A_TWO, (1, 1), (0,)))

    def test_the_last_node_comes_first(self):
        self.assertEqual(demazure(A_TWO, (1, 0), (0, 1)), (((-1, 1), 1), ((1, 0), 1)))
        self.assertEqual(demazure(A_TWO, (1, 0), (1, 0)), (((-1, 1), 1), ((0, -1), 1), ((1, 0), 1)))


if __name__ == "__main__":
    unittest.main()
