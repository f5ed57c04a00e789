import unittest

from tests import matrices, small, trees
from tests.matrices import HUGE
from tests.refusals import ANY, DEEP
from tests.small import A_ONE, A_PAIR, A_TWO, B_TWO, G_TWO
from tests.trees import ADJOINT, TRIVIAL
from weylweights import products
from weylweights.characters import dimension, table_of
from weylweights.errors import InvalidExpression, TooMany
from weylweights.expressions import (
    are_isomorphic, character, contains, decomposition, dimension_of, homomorphisms, invariants, is_expression,
    is_representation, size_of,
)
from weylweights.tables import sum_of

EVERY = small.ALL_SMALL
SOME = small.SOME + small.SOME_OF_FOUR
THREE, BACK, FOUR = ("irreducible", (1, 0)), ("dual", ("irreducible", (1, 0))), ("irreducible", (0, 1))
SQUARE = ("product", THREE, BACK)
ALL = (size_of, character, decomposition, dimension_of, is_representation, are_isomorphic, contains, homomorphisms,
       invariants)
WITH_OTHER = (are_isomorphic, contains, homomorphisms)


class Examples(unittest.TestCase):
    def test_of_the_document(self):
        self.assertEqual(
            [character(A_TWO, THREE), decomposition(A_TWO, SQUARE), decomposition(A_TWO, ("product", THREE, THREE)),
             dimension_of(A_TWO, ADJOINT)],
            [(((-1, 1), 1), ((0, -1), 1), ((1, 0), 1)), (((0, 0), 1), ((1, 1), 1)), (((0, 1), 1), ((2, 0), 1)), 8])
        self.assertEqual(
            [decomposition(B_TWO, ("symmetric square", FOUR)), decomposition(B_TWO, ("exterior square", FOUR)),
             decomposition(A_PAIR, ADJOINT), size_of(B_TWO, ("product", FOUR, FOUR))],
            [(((0, 2), 1),), (((0, 0), 1), ((1, 0), 1)), (((0, 2), 1), ((2, 0), 1)), 16])
        self.assertEqual(
            [are_isomorphic(A_TWO, SQUARE, ("sum", ADJOINT, TRIVIAL)), contains(A_TWO, SQUARE, ADJOINT),
             homomorphisms(A_TWO, SQUARE, SQUARE), invariants(A_TWO, SQUARE),
             is_representation(A_TWO, ("less", TRIVIAL, THREE)), is_expression(A_TWO, ("irreducible", (1,)))],
            [True, True, 2, 1, False, False])

    def test_by_hand(self):
        two = ("irreducible", (1,))
        self.assertEqual(character(A_ONE, ("less", two, ("times", 2, TRIVIAL))), (((-1,), 1), ((0,), -2), ((1,), 1)))
        self.assertEqual(character(A_ONE, ("times", 0, two)), ())
        self.assertEqual(decomposition(A_ONE, ("times", 0, two)), ())
        self.assertEqual(decomposition(A_ONE, ("less", two, two)), ())
        self.assertEqual(decomposition(A_ONE, ("exterior square", ("less", TRIVIAL, two))),
                         small.pairs({(1,): -1, (2,): 1}))
        self.assertEqual(decomposition(A_ONE, ("symmetric square", ("less", TRIVIAL, two))),
                         small.pairs({(0,): 2, (1,): -1}))
        self.assertEqual(dimension_of(A_ONE, ("less", two, ("times", 5, TRIVIAL))), -3)
        self.assertEqual(homomorphisms(A_ONE, ("less", two, TRIVIAL), ("times", 4, TRIVIAL)), -4)
        self.assertEqual(invariants(A_ONE, ("less", two, ("times", 7, TRIVIAL))), -7)
        self.assertEqual(decomposition(G_TWO, ADJOINT), (((0, 1), 1),))
        self.assertEqual(character(A_ONE, ADJOINT), (((-2,), 1), ((0,), 1), ((2,), 1)))
        self.assertIs(is_representation(A_ONE, ("times", 0, two)), True)
        self.assertIs(is_representation(A_ONE, ("less", ("product", two, two), TRIVIAL)), True)
        self.assertIs(contains(A_ONE, ("times", 0, two), ("times", 0, two)), True)
        self.assertIs(contains(A_ONE, ("times", 0, two), ("less", TRIVIAL, two)), False)
        self.assertIs(contains(A_ONE, ("less", TRIVIAL, two), ("less", TRIVIAL, ("times", 2, two))), True)
        self.assertIs(contains(A_ONE, TRIVIAL, ("less", TRIVIAL, two)), True)
        self.assertIs(contains(A_ONE, ("less", TRIVIAL, two), TRIVIAL), False)


class Forms(unittest.TestCase):
    def test_each_kind_within_each_other_kind(self):
        for matrix in EVERY:
            for tree in trees.some(matrix):
                self.assertIs(is_expression(matrix, tree), True)

    def test_wrong_ones(self):
        good = THREE
        wrong = [*ANY, 0, 7, (), ("x",), ("trivial", 1), ("adjoint", ()), ["trivial"], ("Trivial",), ("trivial ",),
                 (TRIVIAL,), "trivial", (b"trivial",), ("irreducible",), ("irreducible", 1), ("irreducible", ()),
                 ("irreducible", (1,)), ("irreducible", (1, 0, 0)), ("irreducible", [1, 0]), ("irreducible", (True, 0)),
                 ("irreducible", (1, -1)), ("irreducible", (1, None)), ("irreducible", (1, 0), 1),
                 ("irreducible", 1, 0), ("irreducible", "10"), ("sum", good), ("sum", good, good, good),
                 ("sum", good, 0), ("sum", 0, good), ("sum", good, [TRIVIAL]), ("sum", (good, good)),
                 ["sum", good, good], ("less", good), ("less", good, None), ("less", good, good, good),
                 ("product", good), ("product", good, ("x",)), ("product", ("x",), good), ("product", good, good, good),
                 ("times", good), ("times", good, 2), ("times", 2), ("times", -1, good), ("times", 101, good),
                 ("times", True, good), ("times", False, good), ("times", "2", good), ("times", None, good),
                 ("times", 2, good, good), ("times", 2, 3), ("times", HUGE, good), ("times", (2,), good), ("dual",),
                 ("dual", good, good), ("dual", "trivial"), ("dual", DEEP), ("symmetric square",), ("sym", good),
                 ("symmetric square", good, good), ("symmetric square", None), ("exterior square",), ("ext", good),
                 ("exterior square", good, good), ("exterior square", 2), ("square", good), ("named", "a"),
                 ("named", good), ("sum", good, ("named", "a")), (None,), (0, good), ((), ()), ({},), ([],),
                 (("dual",), good),]
        for value in wrong:
            with self.subTest(value=value):
                self.assertIs(is_expression(B_TWO, value), False)
                for nest in (("dual", value), ("sum", good, value), ("product", value, good), ("times", 2, value)):
                    self.assertIs(is_expression(B_TWO, nest), False)
                    for function in ALL:
                        with self.assertRaises(InvalidExpression) as caught:
                            function(B_TWO, nest, *[good] * (function in WITH_OTHER))
                        self.assertIs(caught.exception.given, nest)

    def test_depths(self):
        for tree in (TRIVIAL, ADJOINT, THREE):
            for deep in range(1, 7):
                self.assertIs(is_expression(A_TWO, trees.nested(deep, tree)), True)
            for deep in (7, 8, 20):
                self.assertIs(is_expression(A_TWO, trees.nested(deep, tree)), False)
        for kind in ("sum", "less", "product"):
            for at in (0, 1):
                for deep in (5, 6):
                    both = [TRIVIAL, TRIVIAL]
                    both[at] = trees.nested(deep)
                    self.assertIs(is_expression(A_TWO, (kind, *both)), deep == 5)
        for kind in (("times", 2), ("times", 0), ("dual",), ("symmetric square",), ("exterior square",)):
            self.assertIs(is_expression(A_TWO, (*kind, trees.nested(5))), True)
            self.assertIs(is_expression(A_TWO, (*kind, trees.nested(6))), False)
            with self.assertRaises(InvalidExpression):
                size_of(A_TWO, (*kind, trees.nested(6)))

    def test_times(self):
        for number in range(0, 101):
            self.assertIs(is_expression(A_TWO, ("times", number, TRIVIAL)), True)
            self.assertEqual(decomposition(A_TWO, ("times", number, THREE)), (((1, 0), number),) if number else ())

    def test_what_the_matrix_asks_for(self):
        for matrix in EVERY:
            for many in range(6):
                self.assertIs(is_expression(matrix, ("irreducible", (0,) * many)), many == len(matrix))


class Sizes(unittest.TestCase):
    def test_as_told(self):
        for matrix in EVERY:
            for tree in trees.some(matrix, 10 ** 9)[::3]:
                number = trees.size(matrix, tree)
                self.assertEqual(size_of(matrix, tree), number)
                self.assertIs(is_expression(matrix, tree), number <= 1000)

    def test_1000_and_above(self):
        thousand = ("irreducible", (999,))
        for tree, number in (
                (thousand, 1000), (("irreducible", (1000,)), 1001), (("sum", thousand, TRIVIAL), 1001),
                (("sum", ("irreducible", (998,)), TRIVIAL), 1000), (("less", thousand, thousand), 2000),
                (("less", ("irreducible", (499,)), ("irreducible", (499,))), 1000), (("times", 0, thousand), 1000),
                (("times", 1, thousand), 1000), (("times", 2, thousand), 2000),
                (("times", 0, ("times", 9, thousand)), 9000), (("times", 100, ("irreducible", (9,))), 1000),
                (("times", 100, ("irreducible", (10,))), 1100), (("dual", thousand), 1000),
                (("product", thousand, TRIVIAL), 1000), (("product", thousand, ADJOINT), 3000),
                (("product", ("irreducible", (24,)), ("irreducible", (39,))), 1000),
                (("product", ("irreducible", (24,)), ("irreducible", (40,))), 1025),
                (("symmetric square", ("irreducible", (43,))), 990),
                (("symmetric square", ("irreducible", (44,))), 1035),
                (("exterior square", ("irreducible", (43,))), 990), (("exterior square", ("irreducible", (44,))), 1035),
                (("product", ("times", 0, thousand), thousand), 10 ** 6), (("irreducible", (HUGE,)), HUGE + 1),
                (("symmetric square", ("irreducible", (HUGE,))), (HUGE + 1) * (HUGE + 2) // 2)):
            self.assertEqual(size_of(A_ONE, tree), number)
            self.assertIs(is_expression(A_ONE, tree), number <= 1000)
            for function in ALL[1:]:
                arguments = (A_ONE, tree, *[TRIVIAL] * (function in WITH_OTHER))
                if number <= 1000:
                    function(*arguments)
                else:
                    with self.assertRaises(TooMany) as caught:
                        function(*arguments)
                    self.assertEqual(caught.exception.given, number)

    def test_the_size_of_the_sum_is_never_above_it(self):
        for matrix in SOME:
            for tree in trees.some(matrix):
                total = decomposition(matrix, tree)
                size = sum(abs(number) * dimension(matrix, weight) for weight, number in total)
                self.assertLessEqual(size, size_of(matrix, tree))
                self.assertEqual(sum(number * dimension(matrix, weight) for weight, number in total),
                                 dimension_of(matrix, tree))

    def test_the_dimension(self):
        for matrix in SOME:
            for tree in trees.some(matrix):
                self.assertEqual(dimension_of(matrix, tree), sum(trees.character(matrix, tree).values()))
                bare = not trees.kinds_in(tree) & {"less", "exterior square", "times"}
                if bare:
                    self.assertEqual(dimension_of(matrix, tree), size_of(matrix, tree))
        for number in (1, 2, 9):
            tree = ("times", number, THREE)
            self.assertEqual(dimension_of(A_TWO, tree), size_of(A_TWO, tree))


class Characters(unittest.TestCase):
    def test_of_each_kind_from_the_parts(self):
        for matrix in EVERY:
            for tree in trees.some(matrix)[::4 if len(matrix) > 2 else 1]:
                made = character(matrix, tree)
                self.assertEqual(made, trees.table(matrix, tree))
                self.assertIs(type(made), tuple)

    def test_decompositions_make_the_characters_again(self):
        for matrix in SOME:
            for tree in trees.some(matrix):
                total = decomposition(matrix, tree)
                self.assertEqual(total, small.sum_by_heads(matrix, trees.character(matrix, tree), table_of))
                again = small.plus(*[(number, table_of(matrix, weight)) for weight, number in total])
                self.assertEqual(again, trees.character(matrix, tree))
                self.assertEqual(total, sum_of(matrix, character(matrix, tree)))

    def test_both_squares_are_together_the_product(self):
        for matrix in EVERY:
            for tree in trees.some(matrix, 31)[::5]:
                both = ("sum", ("symmetric square", tree), ("exterior square", tree))
                self.assertIs(are_isomorphic(matrix, both, ("product", tree, tree)), True)

    def test_squares_duals_and_products_of_sums(self):
        for matrix in SOME:
            for tree in trees.some(matrix, 40)[::3]:
                total = decomposition(matrix, tree)
                for kind, function in (("symmetric square", products.symmetric_power),
                                       ("exterior square", products.exterior_power)):
                    self.assertEqual(decomposition(matrix, (kind, tree)), function(matrix, total, 2))
                self.assertEqual(decomposition(matrix, ("dual", tree)), products.dual(matrix, total))
                for other in trees.leaves(matrix):
                    if size_of(matrix, ("product", tree, other)) <= 1000:
                        self.assertEqual(decomposition(matrix, ("product", tree, other)),
                                         products.product(matrix, total, decomposition(matrix, other)))

    def test_the_adjoint_one(self):
        for matrix in EVERY:
            table = character(matrix, ADJOINT)
            self.assertEqual(sum(count for _, count in table), len(matrices.all_roots(matrix)) + len(matrix))
            self.assertEqual([count for weight, count in table if any(weight)], [1] * (len(table) - 1))
            self.assertEqual(dict(table)[small.zero(matrix)], len(matrix))
            self.assertEqual(sum(number for _, number in decomposition(matrix, ADJOINT)),
                             homomorphisms(matrix, ADJOINT, ADJOINT))


class Comparisons(unittest.TestCase):
    def test_isomorphic_exactly_if_the_tables_are_one(self):
        for matrix in SOME:
            found = trees.some(matrix, 60)[::13]
            for tree in found:
                for other in found:
                    same = trees.character(matrix, tree) == trees.character(matrix, other)
                    self.assertIs(are_isomorphic(matrix, tree, other), same)
                    self.assertIs(decomposition(matrix, tree) == decomposition(matrix, other), same)

    def test_contained_and_homomorphisms(self):
        for matrix in SOME:
            found = trees.some(matrix, 60)[::17]
            for tree in found:
                total = dict(decomposition(matrix, tree))
                for other in found:
                    others = dict(decomposition(matrix, other))
                    below = all(others.get(weight, 0) <= total.get(weight, 0) for weight in {**total, **others})
                    self.assertIs(contains(matrix, tree, other), below)
                    self.assertEqual(homomorphisms(matrix, tree, other),
                                     sum(number * others.get(weight, 0) for weight, number in total.items()))
                    if size_of(matrix,
                               tree) + size_of(matrix, other) <= 1000 and trees.depth(tree) < 6 > trees.depth(other):
                        self.assertIs(contains(matrix, ("sum", tree, other), tree),
                                      is_representation(matrix, other))
                        self.assertIs(contains(matrix, tree, other), is_representation(matrix, ("less", tree, other)))

    def test_schur(self):
        for matrix in SOME:
            found = trees.some(matrix, 24)[::9]
            for tree in found:
                self.assertEqual(homomorphisms(matrix, tree, tree),
                                 sum(number ** 2 for _, number in decomposition(matrix, tree)))
                for other in found[::3]:
                    number = homomorphisms(matrix, tree, other)
                    self.assertEqual(homomorphisms(matrix, other, tree), number)
                    self.assertEqual(invariants(matrix, ("product", ("dual", tree), other)), number)
            for weight in small.highest_weights(matrix, 40)[:8]:
                for other in small.highest_weights(matrix, 40)[:8]:
                    self.assertEqual(homomorphisms(matrix, ("irreducible", weight), ("irreducible", other)),
                                     int(weight == other))

    def test_invariants_and_representations(self):
        for matrix in EVERY:
            for tree in trees.some(matrix)[::5]:
                total = decomposition(matrix, tree)
                self.assertEqual(invariants(matrix, tree), dict(total).get(small.zero(matrix), 0))
                self.assertIs(is_representation(matrix, tree), all(number > 0 for _, number in total))
                if not trees.kinds_in(tree) & {"less"}:
                    self.assertIs(is_representation(matrix, tree), True)


if __name__ == "__main__":
    unittest.main()
