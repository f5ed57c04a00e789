"""What the document promises over the whole program, from the roots up to the console."""

import unittest
from itertools import combinations

from tests import matrices, small, trees
from tests.trees import ADJOINT, TRIVIAL
from weylweights.books import changed, fresh_book
from weylweights.cartan import kinds_of, parts_of, shown_by, times_vector
from weylweights.certificates import certify_character, certify_contains, certify_finite, certify_product, certify_same
from weylweights.characters import dimension, table_of
from weylweights.checker import accepts
from weylweights.console import run
from weylweights.crystals import product_by_paths, restricted_by_paths
from weylweights.expressions import (
    character, contains, decomposition, dimension_of, homomorphisms, invariants, is_representation, size_of,
)
from weylweights.levis import levi_matrix, restricted
from weylweights.pictures import picture, read_picture
from weylweights.printer import expression_text, sum_text
from weylweights.products import indicator, product
from weylweights.reader import read_expression
from weylweights.roots import highest_roots, positive_roots
from weylweights.tables import is_alike, lacking, sum_of, table_of_sum, table_times
from weylweights.types import matrix_of, type_of

SOME = small.SOME + small.SOME_OF_FOUR
NAMES = ("A1", "A2", "B2", "G2", "A1 A1", "A3", "B3", "C3", "A2 A1", "D4", "A1 A1 A1 A1")


class Kinds(unittest.TestCase):
    def test_each_part_has_just_one_kind_and_a_paper_for_it(self):
        for matrix in matrices.mixed_finite()[::3] + matrices.AFFINE[::3] + matrices.INDEFINITE:
            vector, kinds = shown_by(matrix), kinds_of(matrix)
            image = times_vector(matrix, vector)
            for part, kind in zip(parts_of(matrix), kinds):
                sign = {"finite": 1, "affine": 0, "indefinite": -1}[kind]
                self.assertEqual([(image[node] > 0) - (image[node] < 0) for node in part], [sign] * len(part))
            claim, paper = certify_finite(matrix)
            self.assertEqual(claim[0], "finite" if set(kinds) == {"finite"} else "not finite")
            self.assertIs(accepts(claim, paper), True)
            other = {"finite": "not finite", "not finite": "finite"}[claim[0]]
            self.assertIs(accepts((other, matrix), paper), False)

    def test_types(self):
        for name in NAMES:
            self.assertEqual(" ".join(part for part, _ in type_of(matrix_of(name))), name)


class Characters(unittest.TestCase):
    def test_one_sum_for_each_table(self):
        for matrix in SOME:
            for tree in trees.some(matrix, 200)[::11]:
                table, total = character(matrix, tree), decomposition(matrix, tree)
                self.assertIs(is_alike(matrix, table), True)
                self.assertEqual(sum_of(matrix, table), total)
                self.assertEqual(table_of_sum(matrix, total), table)
                self.assertIs(lacking(matrix, table) is None, is_representation(matrix, tree))
                claim, paper = certify_character(matrix, table)
                self.assertIs(claim[0] == "character", is_representation(matrix, tree))
                self.assertIs(accepts(claim, paper), True)

    def test_the_adjoint_one_from_the_roots(self):
        for matrix in small.ALL_SMALL:
            weights = [times_vector(matrix, root) for root in highest_roots(matrix)]
            self.assertEqual(decomposition(matrix, ADJOINT), small.pairs({weight: 1 for weight in weights}))
            self.assertEqual(dimension_of(matrix, ADJOINT), 2 * len(positive_roots(matrix)) + len(matrix))
            self.assertEqual(dimension_of(matrix, ADJOINT), sum(dimension(matrix, weight) for weight in weights))

    def test_indicators_by_squares(self):
        for matrix in small.SOME:
            for weight in small.highest_weights(matrix, 20):
                tree = ("irreducible", weight)
                self.assertEqual(indicator(matrix, weight), invariants(matrix, ("symmetric square", tree))
                                 - invariants(matrix, ("exterior square", tree)))


class Products(unittest.TestCase):
    def test_all_ways_are_one(self):
        for matrix in SOME:
            weights = small.highest_weights(matrix, 16)[1:5]
            for weight in weights:
                for other in weights:
                    tree = ("product", ("irreducible", weight), ("irreducible", other))
                    total = decomposition(matrix, tree)
                    tables = table_of(matrix, weight), table_of(matrix, other)
                    self.assertEqual(product(matrix, ((weight, 1),), ((other, 1),)), total)
                    self.assertEqual(product_by_paths(matrix, weight, other), total)
                    self.assertEqual(sum_of(matrix, table_times(matrix, *tables)), total)
                    claim, paper = certify_product(matrix, weight, other)
                    self.assertEqual(claim[4], total)
                    self.assertIs(accepts(claim, paper), True)
                    for place, number in total:
                        self.assertEqual(certify_contains(matrix, tree, place)[0][4], number)


class Papers(unittest.TestCase):
    def test_of_two_claims_at_most_one_has_a_paper(self):
        for matrix in small.SOME[:6]:
            found = trees.some(matrix, 40)[::40]
            papers = [(), *[certify_same(matrix, tree, other)[1] for tree in found for other in found]]
            for tree in found:
                for other in found:
                    words = [word for word in ("same", "unlike")
                             if any(accepts((word, matrix, tree, other), paper) for paper in papers)]
                    self.assertEqual(words,
                                     ["same" if character(matrix, tree) == character(matrix, other) else "unlike"])
            papers = [certify_character(matrix, character(matrix, tree))[1] for tree in found]
            papers += [(weight,
                        node) for weight in small.orbit(matrix, (1,) * len(matrix)) for node in range(len(matrix))]
            for tree in found:
                table = character(matrix, tree)
                words = [word for word in ("character", "no character")
                         if any(accepts((word, matrix, table), paper) for paper in papers)]
                self.assertEqual(words, ["character" if is_representation(matrix, tree) else "no character"])

    def test_the_dimensions(self):
        for matrix in SOME:
            for weight in small.highest_weights(matrix, 60):
                many = dimension(matrix, weight)
                self.assertEqual(size_of(matrix, ("irreducible", weight)), many)
                taken = [wrong for wrong in range(many + 2) if accepts(("dimension", matrix, weight, wrong), ())]
                self.assertEqual(taken, [many])


class Texts(unittest.TestCase):
    def test_texts_and_pictures_are_read_again(self):
        for name in NAMES:
            matrix = matrix_of(name)
            for tree in trees.some(matrix)[::9]:
                self.assertEqual(read_expression(matrix, expression_text(matrix, tree)), tree)
                if len(matrix) == 2:
                    table = character(matrix, tree)
                    self.assertEqual(read_picture(matrix, picture(matrix, table)), table)


class Restrictions(unittest.TestCase):
    def test_functions_books_paths_and_the_console_tell_one(self):
        for name in NAMES:
            matrix = matrix_of(name)
            for weight in small.highest_weights(matrix, 30)[1:5]:
                tree = ("irreducible", weight)
                for many in range(1, len(matrix) + 1):
                    for nodes in combinations(range(len(matrix)), many):
                        total = restricted(matrix, nodes, ((weight, 1),))
                        self.assertEqual(restricted_by_paths(matrix, nodes, weight), total)
                        book = changed(changed(fresh_book(matrix), ("define", "x", tree)), ("restrict", nodes))
                        self.assertEqual(book[0], (levi_matrix(matrix, nodes), (("x", total),)))
                        lines = (f"type {name}", f"let x = {expression_text(matrix, tree)}",
                                 "restrict " + " ".join(str(node) for node in nodes), "decompose x")
                        self.assertEqual(run(lines)[-1], sum_text(levi_matrix(matrix, nodes), total))

    def test_comparisons_stay_on_restriction(self):
        for matrix in small.SOME[7:]:
            nodes = (0, 2)
            smaller = levi_matrix(matrix, nodes)
            for tree in trees.some(matrix, 60)[::25]:
                total = restricted(matrix, nodes, decomposition(matrix, tree))
                self.assertEqual(sum(number * dimension(smaller, weight) for weight, number in total),
                                 dimension_of(matrix, tree))
                self.assertGreaterEqual(homomorphisms(matrix, tree, tree), 0)
                self.assertIs(contains(matrix, tree, tree), True)
                self.assertEqual(homomorphisms(matrix, TRIVIAL, tree), invariants(matrix, tree))


if __name__ == "__main__":
    unittest.main()
