import unittest

from tests import matrices, small, trees
from tests.matrices import AFFINE, INDEFINITE
from tests.small import A_ONE, A_TWO, G_TWO
from tests.trees import ADJOINT
from weylweights.certificates import (certify_character, certify_contains, certify_finite, certify_irreducible,
                                      certify_product, certify_same,)
from weylweights.characters import dimension, table_of
from weylweights.checker import accepts
from weylweights.expressions import are_isomorphic, character, decomposition
from weylweights.products import product
from weylweights.tables import is_alike

THREE = ("irreducible", (1, 0))
SQUARE = ("product", THREE, ("dual", THREE))
EVERY = small.ALL_SMALL


class Certificates(unittest.TestCase):
    def right(self, pair, claim, contrary=None):
        """That the pair is accepted, of this claim, and the contrary with no paper of the pair."""
        self.assertIs(type(pair), tuple)
        told, paper = pair
        self.assertEqual(told, claim)
        self.assertIs(accepts(told, paper), True)
        if contrary is not None:
            self.assertIs(accepts((contrary, *claim[1:]), paper), False)

    def test_of_the_document(self):
        self.assertEqual([certify_same(A_TWO, SQUARE, ADJOINT)[0][0], accepts(*certify_same(A_TWO, SQUARE, ADJOINT)),
                          certify_character(A_ONE, (((0,), 1), ((1,), 1)))[0][0]], ['unlike', True, 'no character'])

    def test_irreducible(self):
        for matrix in EVERY:
            for weight in small.highest_weights(matrix, 100)[::3]:
                self.right(certify_irreducible(matrix, weight),
                           ("irreducible", matrix, weight, table_of(matrix, weight)))
                self.assertEqual(certify_irreducible(matrix, weight)[1], ())
        for matrix, weight in ((A_ONE, (999,)), (matrices.of_type("F", 4), (0, 0, 0, 2)),
                               (small.FOUR_ONES, (4, 4, 4, 7)), (G_TWO, (1, 3))):
            self.right(certify_irreducible(matrix, weight), ("irreducible", matrix, weight, table_of(matrix, weight)))

    def test_character(self):
        for matrix in EVERY:
            for tree in trees.some(matrix, 150)[::8]:
                table, total = character(matrix, tree), decomposition(matrix, tree)
                if all(number > 0 for _, number in total):
                    self.right(certify_character(matrix, table), ("character", matrix, table), "no character")
                    self.assertEqual(certify_character(matrix, table)[1], total)
                else:
                    self.right(certify_character(matrix, table), ("no character", matrix, table), "character")
                for at in (0, len(table) // 2):
                    bent = table[:at] + table[at + 1:]
                    word = "character" if not bent else "no character"
                    if bent and not is_alike(matrix, bent):
                        self.right(certify_character(matrix, bent), (word, matrix, bent), "character")

    def test_tables_of_great_weights(self):
        # of far greater dimensions than are let elsewhere
        for matrix in (A_TWO, G_TWO):
            for count in (1, -1, 3):
                table = small.pairs({image: count for image in small.orbit(matrix, (10 ** 30, 7))})
                self.right(certify_character(matrix, table), ("no character", matrix, table), "character")
        table = tuple(((k,), 1) for k in range(-10 ** 3 + 1, 10 ** 3, 2))
        self.right(certify_character(A_ONE, table), ("character", A_ONE, table), "no character")

    def test_product(self):
        for matrix in EVERY:
            weights = small.highest_weights(matrix, 30)[:4]
            for weight in weights:
                for other in weights:
                    total = product(matrix, ((weight, 1),), ((other, 1),))
                    self.right(certify_product(matrix, weight, other), ("product", matrix, weight, other, total))
        claim, paper = certify_product(A_ONE, (999,), (999,))
        self.assertEqual(sum(number * dimension(A_ONE, weight) for weight, number in claim[4]), 10 ** 6)
        self.assertIs(accepts(claim, paper), True)

    def test_same(self):
        for matrix in EVERY[::2]:
            found = trees.some(matrix, 60)[::31]
            for tree in found:
                for other in found:
                    words = ("same", "unlike") if are_isomorphic(matrix, tree, other) else ("unlike", "same")
                    self.right(certify_same(matrix, tree, other), (words[0], matrix, tree, other), words[1])
        tree = ("sum", ADJOINT, ("trivial",))
        self.right(certify_same(A_TWO, SQUARE, tree), ("same", A_TWO, SQUARE, tree), "unlike")

    def test_contains(self):
        for matrix in EVERY[::2]:
            for tree in trees.some(matrix, 100)[::17]:
                total = dict(decomposition(matrix, tree))
                for weight in small.highest_weights(matrix, 40)[:5]:
                    many = total.get(weight, 0)
                    self.right(certify_contains(matrix, tree, weight), ("contains", matrix, tree, weight, many))
                    paper = certify_contains(matrix, tree, weight)[1]
                    for wrong in (many - 1, many + 1):
                        self.assertIs(accepts(("contains", matrix, tree, weight, wrong), paper), False)

    def test_finite(self):
        for matrix in matrices.mixed_finite():
            self.right(certify_finite(matrix), ("finite", matrix), "not finite")
        mixed = [matrices.together(*parts) for parts in ((A_TWO, matrices.SNOW), (matrices.WILD, A_ONE, A_TWO),
                                                         (matrices.SNOW, matrices.WILD, G_TWO),
                                                         (matrices.WILD, matrices.WILD))]
        mixed += [matrices.reordered(matrix, matrices.shuffled(len(matrix), 5)) for matrix in mixed]
        for matrix in AFFINE + INDEFINITE + mixed:
            self.right(certify_finite(matrix), ("not finite", matrix), "finite")
        for matrix in matrices.small_matrices(3, 3)[::5] + matrices.small_matrices(2, 6):
            claim, paper = certify_finite(matrix)
            self.assertIs(accepts(claim, paper), True)
            self.assertEqual(claim[0] == "finite", matrix in FINITE)


FINITE = {matrix for many in (2, 3) for matrix in matrices.all_finite(many)}


if __name__ == "__main__":
    unittest.main()
