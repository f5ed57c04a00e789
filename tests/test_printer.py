import unittest

from tests import small, trees
from tests.small import A_ONE, A_TWO
from tests.trees import ADJOINT, TRIVIAL
from weylweights.errors import InvalidSum, TooMany, WeylError
from weylweights.expressions import decomposition
from weylweights.printer import expression_text, sum_text
from weylweights.reader import read_expression

A, B, C = ("irreducible", (1,)), ("irreducible", (2,)), ("irreducible", (3,))


class Expressions(unittest.TestCase):
    def test_of_the_document(self):
        three = ("irreducible", (1, 0))
        square = ("product", three, ("dual", three))
        self.assertEqual(expression_text(A_TWO, ("times", 2, ("sum", three, ("exterior square", square)))),
                         '2 [V(1, 0) + ext [V(1, 0) * dual V(1, 0)]]')

    def test_each_kind_within_each_other_kind(self):
        sums, products = {"sum": "V(2) + V(3)", "less": "V(2) - V(3)"}, {"product": "V(2) * V(3)"}
        others = {"dual": "dual V(2)", "symmetric square": "sym V(2)", "exterior square": "ext V(2)", "times": "7 V(2)"}
        inner = {kind: (kind, 7, B) if kind == "times" else (kind, B) for kind in others}
        inner |= {kind: (kind, B, C) for kind in (*sums, *products)}
        texts = {**sums, **products, **others}
        for kind, tree in inner.items():
            text, bracketed = texts[kind], f"[{texts[kind]}]"
            behind_plus = bracketed if kind in sums else text
            in_product = behind_plus
            behind_times = text if kind in others else bracketed
            for outer, sign in (("sum", "+"), ("less", "-")):
                self.assertEqual(expression_text(A_ONE, (outer, tree, A)), f"{text} {sign} V(1)")
                self.assertEqual(expression_text(A_ONE, (outer, A, tree)), f"V(1) {sign} {behind_plus}")
            self.assertEqual(expression_text(A_ONE, ("product", tree, A)), f"{in_product} * V(1)")
            self.assertEqual(expression_text(A_ONE, ("product", A, tree)), f"V(1) * {behind_times}")
            for outer, word in (("dual", "dual"), ("symmetric square", "sym"), ("exterior square", "ext")):
                self.assertEqual(expression_text(A_ONE, (outer, tree)), f"{word} {behind_times}")
            self.assertEqual(expression_text(A_ONE, ("times", 10, tree)), f"10 {behind_times}")

    def test_leaves(self):
        self.assertEqual(expression_text(A_ONE, TRIVIAL), "trivial")
        self.assertEqual(expression_text(A_ONE, ADJOINT), "adjoint")
        self.assertEqual(expression_text(A_ONE, ("irreducible", (999,))), "V(999)")
        self.assertEqual(expression_text(small.FOUR_ONES, ("irreducible", (1, 0, 20, 3))), "V(1, 0, 20, 3)")
        self.assertEqual(expression_text(A_ONE, ("times", 0, ("times", 100, TRIVIAL))), "0 100 trivial")

    def test_read_again_and_no_bracket_too_many(self):
        for matrix in small.SOME + small.SOME_OF_FOUR:
            texts = {}
            for tree in trees.some(matrix):
                text = expression_text(matrix, tree)
                self.assertEqual(read_expression(matrix, text), tree)
                self.assertEqual(texts.setdefault(text, tree), tree)
                self.assertNotIn("  ", text)
                for start, end in pairs_of_brackets(text):
                    self.assertNotEqual(read(matrix, text[:start] + text[start + 1:end] + text[end + 1:]), tree)

    def test_the_deepest(self):
        for kind in ("sum", "less", "product", "dual", "symmetric square", "exterior square", "times"):
            for other in ("sum", "less", "product", "dual", "times"):
                tree = A
                for at in range(5):
                    word = other if at % 2 else kind
                    one = (word, tree) if word in trees.ONE_PART else ("times", 1, tree) if word == "times" else None
                    tree = one or (word, TRIVIAL, tree)
                if trees.size(A_ONE, tree) <= 1000:
                    self.assertEqual(read_expression(A_ONE, expression_text(A_ONE, tree)), tree)


def read(matrix, text):
    try:
        return read_expression(matrix, text)
    except WeylError as error:
        return error


def pairs_of_brackets(text):
    found, left = [], []
    for at, sign in enumerate(text):
        if sign == "[":
            left.append(at)
        elif sign == "]":
            found.append((left.pop(), at))
    return found


class Sums(unittest.TestCase):
    def test_of_the_document(self):
        three = ("irreducible", (1, 0))
        self.assertEqual(
            [sum_text(A_TWO, decomposition(A_TWO, ("product", three, ("dual", three)))),
             sum_text(A_ONE, (((0,), -1), ((2,), 3))), sum_text(A_ONE, ())],
            ['V(0, 0) + V(1, 1)', '-V(0) + 3 V(2)', '0'])

    def test_by_hand(self):
        for total, text in (((((0,), 1),), "V(0)"), ((((0,), -1),), "-V(0)"), ((((5,), 2),), "2 V(5)"),
                            ((((5,), -2),), "-2 V(5)"), ((((0,), 1), ((1,), -1)), "V(0) - V(1)"),
                            ((((0,), -3), ((1,), -12), ((20,), 1)), "-3 V(0) - 12 V(1) + V(20)"),
                            ((((0,), 1000),), "1000 V(0)"), ((((999,), -1),), "-V(999)"),
                            ((((0,), 11), ((1,), 10)), "11 V(0) + 10 V(1)")):
            self.assertEqual(sum_text(A_ONE, total), text)
        self.assertEqual(sum_text(A_TWO, (((0, 10), -1), ((1, 2), -2))), "-V(0, 10) - 2 V(1, 2)")

    def test_made_of_terms(self):
        for matrix in small.ALL_SMALL[::4]:
            for tree in trees.some(matrix)[::6]:
                total = decomposition(matrix, tree)
                text = sum_text(matrix, total)
                signed = "".join(f" {'-' if number < 0 else '+'} " + f"{abs(number)} V({', '.join(map(str, weight))})"
                                 for weight, number in total).replace(" 1 V", " V")
                plain = signed[3:] if signed.startswith(" + ") else "-" + signed[3:]
                self.assertEqual(text, plain if total else "0")

    def test_refused(self):
        with self.assertRaises(InvalidSum):
            sum_text(A_ONE, (((-1,), 1),))
        with self.assertRaises(TooMany) as caught:
            sum_text(A_ONE, (((0,), 1), ((999,), -1)))
        self.assertEqual(caught.exception.given, 1001)


if __name__ == "__main__":
    unittest.main()
