import unittest
from itertools import combinations

from tests import matrices, small
from tests.small import A_ONE, A_PAIR, A_TWO, B_TWO, FOUR_ONES, G_TWO
from weylweights.characters import dimension, table_of
from weylweights.crystals import restricted_by_paths
from weylweights.levis import levi_matrix, restricted
from weylweights.tables import sum_of, table_of_sum
from weylweights.types import matrix_of, type_of

EVERY = small.UP_TO_THREE + small.FOUR
SPIN, VECTOR = (((0, 1), 1),), (((1, 0), 1),)


def choices_of_nodes(matrix):
    return [nodes for many in range(1, len(matrix) + 1) for nodes in combinations(range(len(matrix)), many)]


def sums(matrix):
    weights = sorted(small.highest_weights(matrix, 50)[:6])
    return [(), ((weights[-1], 1),), tuple((weight, (-1) ** at * (1 + at % 3)) for at, weight in enumerate(weights))]


class Levis(unittest.TestCase):
    def test_examples(self):
        self.assertEqual(
            [levi_matrix(B_TWO, (1,)), restricted(B_TWO, (1,), SPIN), restricted(B_TWO, (0,), SPIN),
             restricted(B_TWO, (0, 1), VECTOR) == VECTOR, restricted(A_TWO, (0,), (((1, 1), 1),))],
            [((2,),), (((1,), 2),), (((0,), 2), ((1,), 1)), True, (((0,), 1), ((1,), 2), ((2,), 1))])

    def test_matrices(self):
        for matrix in EVERY:
            for nodes in choices_of_nodes(matrix):
                self.assertEqual(levi_matrix(matrix, nodes), tuple(tuple(matrix[i][j] for j in nodes) for i in nodes))
        self.assertEqual(levi_matrix(nodes=(0, 2), matrix=matrix_of("A3")), A_PAIR)
        self.assertEqual(type_of(levi_matrix(matrix_of("F4"), (1, 2, 3)))[0][0], "C3")
        self.assertEqual(type_of(levi_matrix(matrix_of("F4"), (0, 1, 2)))[0][0], "B3")

    def test_restricted_tables(self):
        for matrix in EVERY:
            for nodes in choices_of_nodes(matrix):
                for total in sums(matrix):
                    counts = {}
                    for weight, number in total:
                        for place, count in table_of(matrix, weight):
                            place = tuple(place[node] for node in nodes)
                            counts[place] = counts.get(place, 0) + number * count
                    smaller = levi_matrix(matrix, nodes)
                    made = restricted(matrix, nodes, total)
                    self.assertEqual(small.plus(*[(number, table_of(smaller, weight)) for weight, number in made]),
                                     {place: count for place, count in counts.items() if count})
                    self.assertEqual(made, tuple(sorted(made)))

    def test_by_steps_or_at_once(self):
        for matrix in EVERY[::4]:
            for nodes in choices_of_nodes(matrix):
                smaller = levi_matrix(matrix, nodes)
                for fewer in choices_of_nodes(smaller):
                    for total in sums(matrix)[1:]:
                        at_once = tuple(nodes[node] for node in fewer)
                        step = restricted(matrix, nodes, total)
                        if sum(abs(number) * dimension(smaller, weight) for weight, number in step) <= 1000:
                            self.assertEqual(restricted(smaller, fewer, step), restricted(matrix, at_once, total))

    def test_the_table_and_the_paths_tell_the_same(self):
        for matrix in small.SOME:
            for nodes in choices_of_nodes(matrix):
                for weight in small.highest_weights(matrix, 30):
                    made = restricted(matrix, nodes, ((weight, 1),))
                    self.assertEqual(restricted_by_paths(matrix, nodes, weight), made)
                    counts = {}
                    for place, count in table_of_sum(matrix, ((weight, 1),)):
                        place = tuple(place[node] for node in nodes)
                        counts[place] = counts.get(place, 0) + count
                    self.assertEqual(sum_of(levi_matrix(matrix, nodes), small.pairs(counts)), made)

    def test_edges(self):
        for matrix in EVERY:
            everything = tuple(range(len(matrix)))
            for total in sums(matrix):
                self.assertEqual(restricted(matrix, everything, total), total)
            for node in everything:
                self.assertEqual(levi_matrix(matrix, (node,)), A_ONE)
                self.assertEqual(restricted(matrix, (node,), ()), ())
                self.assertEqual(restricted(matrix, (node,), ((small.zero(matrix), -3),)), (((0,), -3),))
        self.assertEqual(restricted(A_PAIR, (1,), (((999, 0), 1),)), (((0,), 1000),))
        self.assertEqual(restricted(A_PAIR, (0,), (((999, 0), -1),)), (((999,), -1),))
        self.assertEqual(restricted(FOUR_ONES, (1, 3), (((1, 2, 3, 4), 1),)), (((2, 4), 8),))
        self.assertEqual(restricted(G_TWO, (0,), (((1, 0), 1),)), (((1,), 2), ((2,), 1)))
        self.assertEqual(restricted(matrices.of_type("A", 4), (0, 1, 2), (((1, 0, 0, 0), 1),)),
                         (((0, 0, 0), 1), ((1, 0, 0), 1)))


if __name__ == "__main__":
    unittest.main()
