import unittest
from unittest import mock

from tests import matrices, small, trees
from tests.matrices import AFFINE, APART, HUGE, INDEFINITE, SNOW, WILD
from tests.refusals import ANY, DEEP
from tests.small import A_ONE, A_PAIR, A_TWO, B_TWO, G_TWO
from tests.trees import ADJOINT, TRIVIAL
from weylweights import characters
from weylweights.characters import dimension, table_of
from weylweights.checker import accepts
from weylweights.expressions import are_isomorphic, character, decomposition
from weylweights.products import product
from weylweights.tables import is_alike, is_table, sum_of

SOME = small.SOME + small.SOME_OF_FOUR[1:2] + [small.FOUR_ONES]
THREE = ("irreducible", (1, 0))
ONE = (((0, 0), 1),)
THREE_TABLE = table_of(A_TWO, (1, 0))
NO_MATRICES = (*ANY, 0, 7, (), ((1,),), [[2]], ([2],), ((True,),), ((2, -1), (0, 2)), ((2, -1), (-1, 2), (0, 0)))
NOT_SMALL = (*NO_MATRICES, SNOW, WILD, AFFINE[-1], small.FIVE_NOT_FINITE, *small.five_rows())


def bent_tables(matrix, table):
    """Tables like this one, with a weight left out, a count changed, a weight added; and what is no table."""
    for at, (weight, count) in enumerate(table):
        yield table[:at] + table[at + 1:]
        for other in (count + 1, count - 1, -count, 0, True if count == 1 else None):
            yield table[:at] + ((weight, other),) + table[at + 1:]
        yield table[:at] + ((weight, count),) + table[at:]
        yield table[:at] + ([weight, count],) + table[at + 1:]
        yield table[:at] + ((list(weight), count),) + table[at + 1:]
        yield table[:at] + ((weight, count, 1),) + table[at + 1:]
        yield table[:at] + (weight,) + table[at + 1:]
    if len(table) > 1:
        yield table[::-1]
        yield table[1:] + table[:1]
    yield list(table)
    counts = dict(table)
    for more in ((0,) * len(matrix), (1,) * len(matrix), (8,) + (0,) * (len(matrix) - 1)):
        yield small.pairs({**counts, more: counts.get(more, 0) + 1})
        # alike, but with another irreducible one
        for number in (1, -1):
            yield small.pairs(small.plus((1, counts), (number, {image: 1 for image in small.orbit(matrix, more)})))
    yield small.pairs({weight: 2 * count for weight, count in table})
    yield small.pairs({weight: -count for weight, count in table})
    yield ()
    yield from ANY


def characters_of(matrix, *found):
    weights = sorted(set().union(*[trees.weights_in(tree) for tree in found]))
    return tuple((weight, table_of(matrix, weight)) for weight in weights)


class Claims(unittest.TestCase):
    def all_accepted(self, truth, pairs):
        for claim, paper in pairs:
            with self.subTest(claim=claim, paper=paper):
                self.assertIs(accepts(claim, paper), truth)

    def no_claims(self, claims, papers):
        """That these are accepted with none of the papers."""
        self.all_accepted(False, [(claim, paper) for claim in claims for paper in papers])


class Examples(Claims):
    def test_of_the_document(self):
        three = character(A_TWO, THREE)
        self.assertEqual([accepts(("irreducible", A_TWO, (1, 0), three), ()),
                          accepts(("irreducible", A_TWO, (0, 1), three), ()),
                          accepts(("no character", A_ONE, (((0,), 1), ((1,), 1))), ((1,), 0)),
                          accepts(("finite", ((2, -1), (-1, 2))), (1, 1)),
                          accepts(("not finite", ((2, -2), (-2, 2))), (1, 1))], [True, False, True, True, True])


class Anything(Claims):
    def test_what_is_no_claim(self):
        table = THREE_TABLE
        good = [("irreducible", A_TWO, (1, 0), table), ("character", A_TWO, table), ("dimension", A_TWO, (1, 0), 3),
                ("product", A_TWO, (0, 0), (1, 0), (((1, 0), 1),)), ("same", A_TWO, THREE, THREE),
                ("contains", A_TWO, THREE, (1, 0), 1), ("finite", A_TWO), ("not finite", SNOW),
                ("no character", A_TWO, table[1:]), ("unlike", A_TWO, TRIVIAL, ADJOINT)]
        papers = [(), (((1, 0), 1),), (), table, (((1, 0), table),), (((1, 0), table),), (1, 1), (1, 1), ((0, -1), 1),
                  ()]
        self.all_accepted(True, zip(good, papers))
        for claim, paper in zip(good, papers):
            self.no_claims([claim[:-1], (*claim, 1), (*claim, ()), (*claim, paper), list(claim), (claim,), claim[1:],
                            claim[0], (claim[0],), (claim[0].upper(), *claim[1:]), (claim[0] + " ", *claim[1:]),
                            (claim[0].encode(), *claim[1:]), (None, *claim[1:]), ((claim[0],), *claim[1:]),
                            ([claim[0]], *claim[1:])], [paper])
            self.no_claims([claim], [wrong for wrong in (*ANY, 0, 7, "paper", [paper], (paper,), list(paper),
                                                         (*paper, 1), (*paper, ())) if wrong != paper])
            self.no_claims((*ANY, 0, (), ("",), ("what",), ("what", A_TWO)), [paper])
        self.no_claims([*ANY, (), DEEP], [*ANY, (), DEEP])

    def test_wrong_matrices(self):
        table = THREE_TABLE
        for matrix in NOT_SMALL:
            self.no_claims([("irreducible", matrix, (1, 0), table), ("character", matrix, ()),
                            ("no character", matrix, table[1:]), ("dimension", matrix, (1, 0), 3),
                            ("product", matrix, (0, 0), (1, 0), (((1, 0), 1),)), ("same", matrix, TRIVIAL, TRIVIAL),
                            ("unlike", matrix, TRIVIAL, ADJOINT), ("contains", matrix, TRIVIAL, (0, 0), 1)],
                           [(), table, (((1, 0), table),), ((0, -1), 1)])
        for matrix in NO_MATRICES:
            self.no_claims([("finite", matrix), ("not finite", matrix)], [(), (1,), (1, 1), (1, 1, 1)])

    def test_no_freudenthal(self):
        barred = mock.Mock(side_effect=AssertionError("Freudenthal"))
        paper = characters_of(B_TWO, ("irreducible", (0, 1)), ("irreducible", (1, 0)))
        vector, spin = table_of(B_TWO, (1, 0)), table_of(B_TWO, (0, 1))
        names = [name for name in vars(characters) if callable(getattr(characters, name))]
        tree = ("less", ("product", ("irreducible", (1, 0)), ADJOINT), ("symmetric square", ("irreducible", (0, 1))))
        total, sums = decomposition(B_TWO, tree), product(B_TWO, (((1, 0), 1),), (((0, 1), 1),))
        patches = [mock.patch.object(characters, name, barred) for name in names]
        patches += [mock.patch(f"weylweights.{place}.counts_of", barred) for place in ("tables", "expressions")]
        for patch in patches:
            patch.start()
        try:
            self.all_accepted(
                True, [(("irreducible", B_TWO, (1, 0), vector), ()), (("product", B_TWO, (1, 0), (0, 1), sums), spin),
                       (("character", B_TWO, vector), (((1, 0), 1),)), (("dimension", B_TWO, (1, 0), 5), ()),
                       (("contains", B_TWO, tree, (1, 0), dict(total)[1, 0]), paper),
                       (("same", B_TWO, tree, tree), paper), (("unlike", B_TWO, tree, ADJOINT), paper),
                       (("no character", B_TWO, small.pairs({**dict(vector), (0, 0): -1})), (0, 0))])
        finally:
            for patch in patches:
                patch.stop()


class Irreducible(Claims):
    def test_right_ones(self):
        for matrix in SOME:
            for weight in small.highest_weights(matrix, 100):
                self.all_accepted(True, [(("irreducible", matrix, weight, table_of(matrix, weight)), ())])

    def test_bent_ones(self):
        for matrix in (A_ONE, A_TWO, B_TWO, G_TWO, A_PAIR, small.SOME[-1]):
            for weight in small.highest_weights(matrix, 30)[:6]:
                table = table_of(matrix, weight)
                self.no_claims([("irreducible", matrix, weight, bent) for bent in bent_tables(matrix, table)], [()])
                for other in small.highest_weights(matrix, 30)[:8]:
                    self.assertIs(accepts(("irreducible", matrix, other, table), ()), other == weight)

    def test_wrong_weights(self):
        table = THREE_TABLE
        self.no_claims([("irreducible", A_TWO, weight, table) for weight in (*ANY, (), (1,), (1, 0, 0), [1, 0],
                                                                             (True, 0), (1, False), (-1, 1), (0, -1),
                                                                             ("1", 0), (1, None), ((1, 0),))], [()])
        # 1 and True are alike for Python
        self.no_claims([("irreducible", A_ONE, (True,), table_of(A_ONE, (1,)))], [()])

    def test_dimensions_of_1000_and_above(self):
        for number, truth in ((998, True), (999, True), (1000, False), (1001, False)):
            table = tuple(((k,), 1) for k in range(-number, number + 1, 2))
            self.all_accepted(truth, [(("irreducible", A_ONE, (number,), table), ()),
                                      (("product", A_ONE, (0,), (number,), (((number,), 1),)), table),
                                      (("product", A_ONE, (number,), (0,), (((number,), 1),)), (((0,), 1),)),
                                      (("character", A_ONE, table), (((number,), 1),))])
        self.all_accepted(True, [(("irreducible", A_TWO, (9, 8), table_of(A_TWO, (9, 8))), ())])
        self.assertEqual(dimension(A_TWO, (9, 8)), 855)


class Characters(Claims):
    def test_of_representations_and_of_none(self):
        for matrix in SOME:
            for tree in trees.some(matrix, 200)[::4]:
                table, total = character(matrix, tree), decomposition(matrix, tree)
                truth = all(number > 0 for _, number in total)
                self.all_accepted(truth, [(("character", matrix, table), total)])
                for weight in small.highest_weights(matrix, 60):
                    self.assertIs(accepts(("no character", matrix, table), weight), dict(total).get(weight, 0) < 0)
                # alike tables have no pair of a weight and a node
                for weight, _ in table[:5]:
                    self.no_claims([("no character", matrix, table)], [(weight, node) for node in range(len(matrix))])

    def test_bent_ones(self):
        for matrix in (A_ONE, A_TWO, B_TWO, G_TWO, A_PAIR):
            table = character(matrix, ADJOINT)
            total = decomposition(matrix, ADJOINT)
            for bent in bent_tables(matrix, table):
                good = is_table(matrix, bent)
                self.assertIs(accepts(("character", matrix, bent), total), False)
                if good and is_alike(matrix, bent):
                    made = sum_of(matrix, bent)
                    truth = all(number > 0 for _, number in made)
                    self.all_accepted(truth, [(("character", matrix, bent), made)])
                    shown = [weight for weight, _ in made if accepts(("no character", matrix, bent), weight)]
                    self.assertEqual(shown, [weight for weight, number in made if number < 0])
                elif good:
                    counts = dict(bent)
                    orbits = set().union(*[small.orbit(matrix, weight) for weight in counts])
                    shown = [(weight, node) for weight in orbits for node in range(len(matrix))
                             if accepts(("no character", matrix, bent), (weight, node))]
                    self.assertTrue(shown)
                    for weight, node in shown:
                        image = matrices.weight_reflection(matrix, node, weight)
                        self.assertNotEqual(counts.get(weight, 0), counts.get(image, 0))
                    self.no_claims([("character", matrix, bent)], [(), total, (((0,) * len(matrix), 1),)])
                    self.no_claims([("no character", matrix, bent)], small.highest_weights(matrix, 60))
                else:
                    self.no_claims([("no character", matrix, bent)], [(0,) * len(matrix), ((1,) * len(matrix), 0)])

    def test_papers(self):
        table = THREE_TABLE
        for paper in (*ANY, (), (((1, 0), 2),), (((1, 0), True),), (((0, 1), 1),), (((0, 0), 1), ((1, 0), 1)),
                      [((1, 0), 1)], ([(1, 0), 1],), (((1, 0), 1), ((1, 0), 1)), (((True, 0), 1),), (((1, False), 1),),
                      (((1, 0), 1), ((2, 0), 0)), ((1, 0), 1), (((1, 0),),)):
            self.no_claims([("character", A_TWO, table)], [paper])
        spoilt = table[1:]
        self.all_accepted(True, [(("no character", A_TWO, spoilt),
                                  paper) for paper in (((0, -1), 1), ((1, 0), 0), ((-1, 1), 0), ((-1, 1), 1))])
        self.no_claims([("no character", A_TWO, spoilt)], [((0, -1), 0), ((1, 0), 1), ((0, -1), 2), ((0, -1), -1),
                                                           ((0, -1), True), ((0, -1), None), ([0, -1], 1), [(0, -1), 1],
                                                           ((0, -1), 1, 1), ((0,), 1), ((0, -1, 0), 1), ((0, False), 1),
                                                           (0, -1), (0, 0), (1, 0), ((0, -1),), (1, (0, -1)),
                                                           ((7, 7), 0), ((HUGE, -HUGE), 1), *ANY])
        self.all_accepted(True, [(("no character", A_ONE, (((HUGE,), 1),)), ((HUGE,), 0)),
                                 (("no character", A_ONE, (((HUGE,), 1),)), ((-HUGE,), 0))])
        lacking = small.pairs({(1, 0): 1, (-1, 1): 1, (0, -1): 1, (0, 0): -1})
        self.all_accepted(True, [(("no character", A_TWO, lacking), (0, 0))])
        self.no_claims([("no character", A_TWO, lacking)],
                       [(1, 0), (0, 1), (0, -1), (-1, 1), (0, False), [0, 0], (0,), ((0, 0), 0), ((0, 0),), (2, 2)])
        self.all_accepted(True, [(("character", A_TWO, ()), ())])
        self.no_claims([("no character", A_TWO, ())], [(0, 0), ((0, 0), 0), ((1, 0), 0), ()])

    def test_sizes(self):
        for number, truth in ((1000, True), (1001, False)):
            self.all_accepted(truth, [(("character", A_ONE, (((0,), number),)), (((0,), number),)),
                                      (("no character", A_ONE, (((0,), -number),)), (0,)),
                                      (("no character", A_ONE, (((1,), number),)), ((1,), 0))])


class Dimensions(Claims):
    def test_of_each_weight(self):
        for matrix in SOME:
            for weight in small.highest_weights(matrix, 100)[::9]:
                many = small.dimension(matrix, weight)
                self.all_accepted(True, [(("dimension", matrix, weight, many), ())])
                self.no_claims([("dimension", matrix, weight,
                                 wrong) for wrong in (many + 1, many - 1, -many, 0 if many else 1, None, str(many))],
                               [()])
                self.no_claims([("dimension", matrix, weight, many)], [None, (1,), [], "", 0, False, {}, [()]])
        self.all_accepted(True, [(("dimension", A_ONE, (HUGE,), HUGE + 1), ()), (("dimension", A_TWO, (0, 0), 1), ())])
        self.no_claims(
            [("dimension", A_TWO, (0, 0), True), ("dimension", A_ONE, (HUGE,), HUGE), ("dimension", A_TWO, (0, -1), 0),
             ("dimension", A_TWO, (-2, 0), -0), ("dimension", A_TWO, (False, 0), 1), ("dimension", A_TWO, [0, 0], 1),
             ("dimension", A_TWO, (-1, -1), 0), ("dimension", A_TWO, (-2, -2), -1), ("dimension", A_TWO, (-2, 3), -3),
             ("dimension", A_TWO, (0,), 1), ("dimension", A_TWO, None, 1), ("dimension", A_TWO, (0, 0, 0), 1)], [()])


class Products(Claims):
    def test_right_ones_and_bent_ones(self):
        for matrix in SOME:
            weights = small.highest_weights(matrix, 40)[:7]
            for weight in weights:
                for other in weights[:5]:
                    total = product(matrix, ((weight, 1),), ((other, 1),))
                    paper = table_of(matrix, other)
                    self.all_accepted(True, [(("product", matrix, weight, other, total), paper)])
                    self.assertIs(accepts(("product", matrix, other, weight, total), paper), weight == other)
                    self.no_claims([("product", matrix, weight, other, bent) for bent in bent_sums(total)], [paper])

    def test_papers(self):
        for matrix in (A_ONE, A_TWO, B_TWO, A_PAIR):
            weights = small.highest_weights(matrix, 16)[:4]
            for weight in weights:
                for other in weights:
                    total = product(matrix, ((weight, 1),), ((other, 1),))
                    table = table_of(matrix, other)
                    for paper in bent_tables(matrix, table):
                        # 1 of Python's True is not told apart by ==
                        self.no_claims([("product", matrix, weight, other, total)], [paper])

    def test_great_products(self):
        total = tuple(((k,), 1) for k in range(0, 1999, 2))
        paper = tuple(((k,), 1) for k in range(-999, 1000, 2))
        self.all_accepted(True, [(("product", A_ONE, (999,), (999,), total), paper)])
        self.no_claims([("product", A_ONE, (999,), (999,), total[1:])], [paper])

    def test_wrong_weights(self):
        paper, total = THREE_TABLE, (((1, 0), 1),)
        self.all_accepted(True, [(("product", A_TWO, (0, 0), (1, 0), total), paper)])
        for wrong in (*ANY, (), (0,), [0, 0], (False, 0), (0, 0, 0), (-1, 0), (None, 0), ((0, 0),), (99, 99)):
            self.no_claims([("product", A_TWO, wrong, (1, 0), total), ("product", A_TWO, (0, 0), wrong, total)],
                           [paper, ()])


def bent_sums(total):
    for at, (weight, number) in enumerate(total):
        yield total[:at] + total[at + 1:]
        for other in (number + 1, number - 1, 0, True if number == 1 else False, None):
            yield total[:at] + ((weight, other),) + total[at + 1:]
        yield total[:at] + ((weight, number),) + total[at:]
        yield total[:at] + ((tuple(bool(n) for n in weight), number),) + total[at + 1:]
        yield total[:at] + ([weight, number],) + total[at + 1:]
    if len(total) > 1:
        yield total[::-1]
    yield list(total)
    yield ()
    yield total + (((10 ** 6,) * len(total[0][0]), 1),)
    yield from ANY


class Expressions(Claims):
    def test_same_and_unlike(self):
        for matrix in SOME:
            found = trees.some(matrix, 100)[::14]
            for tree in found:
                for other in found:
                    paper = characters_of(matrix, tree, other)
                    same = are_isomorphic(matrix, tree, other)
                    self.all_accepted(same, [(("same", matrix, tree, other), paper)])
                    self.all_accepted(not same, [(("unlike", matrix, tree, other), paper)])

    def test_contains(self):
        for matrix in SOME:
            for tree in trees.some(matrix, 150)[::9]:
                paper, total = characters_of(matrix, tree), dict(decomposition(matrix, tree))
                for weight in [*total][:4] + [small.zero(matrix), (30,) * len(matrix)]:
                    many = total.get(weight, 0)
                    self.all_accepted(True, [(("contains", matrix, tree, weight, many), paper)])
                    self.no_claims([("contains", matrix, tree, weight, wrong) for wrong in (many + 1, many - 1,
                                                                                            bool(many), None, str(many),
                                                                                            (many,), HUGE)], [paper])
        self.all_accepted(True, [(("contains", A_ONE, ("less", TRIVIAL, ADJOINT), (2,), -1), ()),
                                 (("contains", A_ONE, TRIVIAL, (HUGE,), 0), ())])
        for weight in (*ANY, (), (0,), (0, 0, 0), [0, 0], (-1, 0), (False, 0), ("0", 0), ((0, 0),)):
            self.no_claims([("contains", A_TWO, ("times", 0, TRIVIAL), weight, 0)], [()])

    def test_bent_characters(self):
        for matrix in (A_ONE, A_TWO, B_TWO, G_TWO, A_PAIR):
            first, second = trees.leaves(matrix)[3:]
            tree = ("sum", ("product", first, second), ("less", TRIVIAL, ("dual", second)))
            paper = characters_of(matrix, tree)
            self.assertEqual(len(paper), 2)
            total = dict(decomposition(matrix, tree))
            claims = [("same", matrix, tree, tree), ("same", matrix, tree, second), ("unlike", matrix, tree, second),
                ("unlike", matrix, tree, tree),
                      *[("contains", matrix, tree, weight, total.get(weight, 0))
                        for weight in small.highest_weights(matrix, 30)]]
            self.all_accepted(True, [(claims[0], paper), (claims[2], paper), (claims[4], paper)])
            more = ((3,) * len(matrix), table_of(matrix, (1,) * len(matrix)))
            zero = (small.zero(matrix), ((small.zero(matrix), 1),))
            bent = [paper[:1], paper[1:], (), paper[::-1], paper + paper[1:], paper[:1] + paper, paper + (more,),
                    (zero,) + paper, list(paper), (paper[0], list(paper[1])),
                    (paper[0], (list(paper[1][0]), paper[1][1])), (paper[0], paper[1] + (1,)), (paper[0], paper[1][:1]),
                    ((paper[0][0], paper[1][1]), (paper[1][0], paper[0][1])), (paper[0], None), (paper[0], paper[1][1]),
                    *ANY]
            bent += [(paper[0], (paper[1][0], table)) for table in bent_tables(matrix, paper[1][1])]
            bent += [((paper[0][0], table), paper[1]) for table in bent_tables(matrix, paper[0][1])]
            self.no_claims(claims, bent)

    def test_which_weights_need_a_character(self):
        zero, zero_table = ("irreducible", (0,)), (((0,), 1),)
        two = ("irreducible", (1,))
        for tree, weights in ((TRIVIAL, ()), (ADJOINT, ()), (("product", ADJOINT, ("times", 0, TRIVIAL)), ()),
                              (zero, ((0,),)), (("times", 0, two), ((1,),)),
                              (("sum", zero, ("dual", two)), ((0,), (1,))),
                              (("less", two, ("symmetric square", two)), ((1,),))):
            paper = tuple((weight, table_of(A_ONE, weight)) for weight in weights)
            self.all_accepted(True, [(("same", A_ONE, tree, tree), paper)])
            for other in ((), (((0,), zero_table),), (((1,), table_of(A_ONE, (1,))),),
                          (((0,), zero_table), ((1,), table_of(A_ONE, (1,))))):
                self.assertIs(accepts(("same", A_ONE, tree, tree), other), other == paper)

    def test_true_is_not_1(self):
        two, zero = ("irreducible", (1,)), ("irreducible", (0,))
        table = table_of(A_ONE, (1,))
        for tree, paper, wrong in ((two, (((1,), table),), [(((True,), table),), (((1,), (((-1,), True), ((1,), 1))),),
                                                            (((1,), (((-1,), 1), ((True,), 1))),)]),
                                   (zero, (((0,), (((0,), 1),)),),
                                    [(((False,), (((0,), 1),)),), (((0,), (((0,), True),)),)])):
            self.all_accepted(True,
                              [(("same", A_ONE, tree, tree), paper), (("contains", A_ONE, tree, tree[1], 1), paper)])
            self.no_claims([("same", A_ONE, tree, tree), ("contains", A_ONE, tree, tree[1], 1)], wrong)
            self.no_claims([("contains", A_ONE, tree, tree[1], True)], [paper])

    def test_wrong_expressions(self):
        for wrong in (*ANY, (), ("x",), ("irreducible", (1,)), ("times", 101, TRIVIAL), ("named", "a"), trees.nested(7),
                      ["trivial"], ("times", 11, ("times", 100, TRIVIAL)),
                      ("less", ("irreducible", (9, 9)), ("irreducible", (9, 9)))):
            for tree, other in ((wrong, TRIVIAL), (TRIVIAL, wrong), (wrong, wrong)):
                self.no_claims([("same", A_TWO, tree, other), ("unlike", A_TWO, tree, other)], [(), (((9, 9), ()),)])
            self.no_claims([("contains", A_TWO, wrong, (0, 0), many) for many in (0, 1)], [()])
        for number, truth in ((10, True), (11, False)):
            tree = ("times", 100, ("times", number, TRIVIAL))
            self.all_accepted(truth, [(("same", A_TWO, tree, tree), ()), (("unlike", A_TWO, tree, TRIVIAL), ()),
                                      (("contains", A_TWO, tree, (0, 0), 100 * number), ())])
        self.all_accepted(True, [(("same", A_TWO, trees.nested(6), TRIVIAL), ())])


class Finite(Claims):
    def shown(self, matrix, vector):
        return [sum(a * b for a, b in zip(row, vector)) for row in matrix]

    def test_vectors(self):
        found = [A_ONE, A_TWO, B_TWO, G_TWO, A_PAIR, APART, SNOW, WILD, ((2, -4), (-1, 2)), ((2, -1), (-4, 2)),
                 ((2, -5), (-1, 2))]
        for matrix in found:
            vectors = [(a,) for a in range(-2, 9)] if len(matrix) == 1 else (
                [(a, b) for a in range(-2, 9) for b in range(-2, 9)] if len(matrix) == 2 else
                [(a, b, c) for a in range(-1, 5) for b in range(-1, 5) for c in range(-1, 5)])
            for vector in vectors:
                sums = self.shown(matrix, vector)
                self.assertIs(accepts(("finite", matrix), vector), min(vector) > 0 and min(sums) > 0)
                self.assertIs(accepts(("not finite", matrix), vector),
                              min(vector) >= 0 and any(vector) and max(sums) <= 0)

    def test_vectors_below_0(self):
        # the wild one leads this vector above 0, too
        self.assertEqual(self.shown(WILD, (-5, -4)), [2, 2])
        self.no_claims([("finite", WILD), ("not finite", WILD)], [(-5, -4)])
        self.assertEqual(self.shown(A_TWO, (-1, -1)), [-1, -1])
        self.no_claims([("finite", A_TWO), ("not finite", A_TWO)], [(-1, -1), (-1, 0), (0, -1)])

    def test_no_matrix_has_both(self):
        for matrix in matrices.small_matrices(2, 5):
            vectors = [(a, b) for a in range(11) for b in range(11)]
            finite = any(accepts(("finite", matrix), vector) for vector in vectors)
            infinite = any(accepts(("not finite", matrix), vector) for vector in vectors)
            self.assertIs(finite, not infinite)
            self.assertIs(finite, matrix[0][1] * matrix[1][0] < 4)

    def test_8_and_9_rows(self):
        eight, nine = matrices.of_type("E", 8), matrices.from_edges(9, [(0, 2), (2, 3), (3, 4), (4, 5), (5, 6), (6, 7),
                                                                        (7, 8), (1, 3)])
        marks = (2, 3, 4, 6, 5, 4, 3, 2, 1)
        self.all_accepted(False, [(("not finite", nine), marks), (("finite", nine), marks)])
        self.assertEqual(self.shown(nine, marks), [0] * 9)
        vector = (92, 136, 182, 270, 220, 168, 114, 58)
        self.assertEqual(self.shown(eight, vector), [2] * 8)
        self.all_accepted(True, [(("finite", eight), vector)])
        self.all_accepted(False, [(("not finite", eight), vector), (("finite", eight), vector[::-1]),
                                  (("finite", eight), vector[:-1])])

    def test_affine_and_indefinite_ones(self):
        for matrix in AFFINE + INDEFINITE:
            together = matrices.together(A_ONE, matrix) if len(matrix) < 8 else matrix
            for vector in ((1,) * len(matrix), (2,) * len(matrix), (HUGE,) * len(matrix)):
                self.assertIs(accepts(("finite", matrix), vector), False)
                self.assertIs(accepts(("not finite", matrix), vector), max(self.shown(matrix, vector)) <= 0)
                if together != matrix:
                    self.assertIs(accepts(("not finite", together), (0, *vector)), max(self.shown(matrix, vector)) <= 0)
                    self.assertIs(accepts(("not finite", together), (1, *vector)), False)

    def test_papers(self):
        self.no_claims([("finite", A_TWO), ("not finite", SNOW)], [*ANY, (), (1,), (1, 1, 1), [1, 1], (True, 1),
                                                                   (1, True), (1, None), ("1", 1), (0, 0), (-1, -1),
                                                                   (0, 1), (1, 0), ((1, 1),), 1, (1, "1")])
        self.all_accepted(True, [(("finite", A_TWO), (HUGE, HUGE)), (("not finite", SNOW), (HUGE, HUGE)),
                                 (("not finite", WILD), (1, 1)),
                                 (("not finite", matrices.together(A_TWO, SNOW)), (0, 0, 3, 3))])
        self.no_claims([("not finite", matrices.together(A_TWO, SNOW))],
                       [(1, 1, 3, 3), (0, 0, 3, 2), (0, 0, 0, 0), (0, 0, 1, 0)])


if __name__ == "__main__":
    unittest.main()
