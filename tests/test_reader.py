import unittest
from itertools import product

from tests import small, trees
from tests.small import A_ONE, A_TWO, B_TWO
from tests.trees import ADJOINT, TRIVIAL, nested
from weylweights.errors import BadText, TooMany
from weylweights.expressions import size_of
from weylweights.printer import expression_text
from weylweights.reader import read_expression, read_list

THREE, TWO = ("irreducible", (1, 0)), ("irreducible", (1,))
TEN_TO_19, TWENTY_NINES = "1" + "0" * 19, "9" * 20


class Reading(unittest.TestCase):
    def wrong(self, function, matrix, text, spot):
        with self.subTest(text=text), self.assertRaises(BadText) as caught:
            function(matrix, text)
        self.assertEqual(caught.exception.spot, spot)

    def expressions(self, matrix, cases):
        for text, tree in cases:
            with self.subTest(text):
                self.assertEqual(read_expression(matrix, text), tree)

    def bad(self, matrix, cases):
        for text, spot in cases:
            self.wrong(read_expression, matrix, text, spot)

    def bad_lists(self, matrix, cases):
        for text, spot in cases:
            self.wrong(read_list, matrix, text, spot)


class Examples(Reading):
    def test_of_the_document(self):
        square = ("product", THREE, ("dual", THREE))
        self.assertEqual(
            [read_expression(A_TWO, "V(1, 0) * dual V(1,0)") == square,
             read_list(A_ONE, "let a = 2 V(3); let b = a - trivial;  # two")],
            [True, (('a', ('times', 2, ('irreducible', (3,)))),
                    ('b', ('less', ('times', 2, ('irreducible', (3,))), ('trivial',))))])
        self.bad(A_TWO, [("V(1)", 3)])
        self.bad(A_ONE, [("101 V(1) + x", 0)])


class Expressions(Reading):
    def test_kinds(self):
        self.expressions(A_ONE, [
            ("V(1)", TWO), ("trivial", TRIVIAL), ("adjoint", ADJOINT), ("[V(1)]", TWO), ("[[V(1)]]", TWO),
            ("V(1) + trivial", ("sum", TWO, TRIVIAL)), ("V(1) - trivial", ("less", TWO, TRIVIAL)),
            ("V(1) * trivial", ("product", TWO, TRIVIAL)), ("3 V(1)", ("times", 3, TWO)), ("dual V(1)", ("dual", TWO)),
            ("sym V(1)", ("symmetric square", TWO)), ("ext V(1)", ("exterior square", TWO)),
            ("0 trivial", ("times", 0, TRIVIAL)), ("100 trivial", ("times", 100, TRIVIAL)),
        ])

    def test_what_binds_more(self):
        a, b, c = ("irreducible", (1,)), ("irreducible", (2,)), ("irreducible", (3,))
        self.expressions(
            A_ONE, [("V(1) - V(2) - V(3)", ("less", ("less", a, b), c)),
                    ("V(1) + V(2) - V(3)", ("less", ("sum", a, b), c)),
                    ("V(1) - [V(2) - V(3)]", ("less", a, ("less", b, c))),
                    ("V(1) + V(2) * V(3)", ("sum", a, ("product", b, c))),
                    ("V(1) * V(2) + V(3)", ("sum", ("product", a, b), c)),
                    ("V(1) * V(2) * V(3)", ("product", ("product", a, b), c)),
                    ("V(1) * [V(2) * V(3)]", ("product", a, ("product", b, c))),
                    ("[V(1) + V(2)] * V(3)", ("product", ("sum", a, b), c)),
                    ("2 V(1) * V(2)", ("product", ("times", 2, a), b)),
                    ("2 [V(1) * V(2)]", ("times", 2, ("product", a, b))), ("dual V(1) + V(2)", ("sum", ("dual", a), b)),
                    ("sym dual 2 ext V(1)", ("symmetric square", ("dual", ("times", 2, ("exterior square", a))))),
                    ("2 3 V(1)", ("times", 2, ("times", 3, a))), ("V(1) * 2 V(2)", ("product", a, ("times", 2, b))),
                    ("V(1) - 2 V(2) * V(3)", ("less", a, ("product", ("times", 2, b), c))),
                    ("2 V(1) - dual [V(2) + V(3)] * 0 V(1)",
                     ("less", ("times", 2, a), ("product", ("dual", ("sum", b, c)), ("times", 0, a))))])

    def test_blanks_line_feeds_and_remarks(self):
        self.expressions(
            A_TWO, [("V(1,0)", THREE), (" V ( 1 , 0 ) ", THREE), ("\n\nV(1,\n0)\n", THREE),
                    ("V#x\n(#y $ \u00e4\n1#,\n,0#)\n)", THREE), ("#\nV(1, 0)#", THREE), ("V(1, 0)# + V(2, 0)", THREE),
                    ("V(1, 0)# [[ \n", THREE), ("2V(1,0)", ("times", 2, THREE)), ("dual#dual\nV(1,0)", ("dual", THREE)),
                    ("dual[V(1,0)]", ("dual", THREE)),
                    ("2dual 3sym V(1,0)", ("times", 2, ("dual", ("times", 3, ("symmetric square", THREE))))),
                    ("trivial+adjoint-trivial*adjoint",
                     ("less", ("sum", TRIVIAL, ADJOINT), ("product", TRIVIAL, ADJOINT))),
                    ("# a\n# b\n 1\n# c\ntrivial # d", ("times", 1, TRIVIAL)), ("dual\ntrivial", ("dual", TRIVIAL))])
        self.bad(A_TWO, [("V(1 0)", 4), ("V(1,, 0)", 4), ("V(1, 0", 6), ("V(1, 0 ", 7), ("V(1, 0 # )", 10),
                         ("dualtrivial", 0), ("1 2", 3), ("sym\ttrivial", 3), ("trivial\r", 7), ("trivial\n\t", 8),
                         ("\ufefftrivial", 0)])

    def test_rows_of_digits(self):
        self.expressions(A_ONE, [("V(007)", ("irreducible", (7,))), ("V(" + "0" * 19 + "7)", ("irreducible", (7,))),
                                 ("V(00)", ("irreducible", (0,))), ("0100 trivial", ("times", 100, TRIVIAL)),
                                 ("0" * 20 + " trivial", ("times", 0, TRIVIAL)),
                                 ("0" * 17 + "100 V(1)", ("times", 100, TWO))])
        self.bad(A_ONE, [("V(" + "0" * 21 + ")", 2), ("V(" + "0" * 20 + "7)", 2), ("0" * 21 + " trivial", 0),
                         ("dual " + "1" * 21, 5), ("V(1" + "0" * 20 + ")", 2), (TWENTY_NINES + " trivial", 0),
                         (TEN_TO_19 + "0 trivial", 0), ("V(\u0661)", 2), ("V(\u00b2)", 2), ("V(1\u0661)", 3),
                         ("V(-1)", 2), ("V(+1)", 2), ("V(1.)", 3), ("\u0661 trivial", 0), ("trivial + " + "1" * 21, 10),
                         ("V(a)", 2), ("101 trivial", 0), ("trivial + 101 trivial", 10)])
        for text, number in ((f"V({TWENTY_NINES})", 10 ** 20), (f"V({TEN_TO_19})", 10 ** 19 + 1), ("V(1000)", 1001)):
            with self.assertRaises(TooMany) as caught:
                read_expression(A_ONE, text)
            self.assertEqual(caught.exception.given, number)

    def test_the_first_word_that_cannot_go_on(self):
        self.bad(A_ONE, [("", 0), ("   ", 3), ("\n", 1), ("# x", 3), ("#\n\n", 3), ("V", 1), ("V(", 2), ("V()", 2),
                         ("V(1", 3), ("V(1,2)", 3), ("V(1))", 4), ("V 1", 2), ("v(1)", 1), ("W(1)", 0), ("VV(1)", 1),
                         ("V(1)V(1)", 4), ("V[1]", 1), ("+ V(1)", 0), ("- V(1)", 0), ("V(1) +", 6), ("V(1) + ", 7),
                         ("V(1) + + V(1)", 7), ("V(1) - - V(1)", 7), ("V(1) * * V(1)", 7), ("[]", 1), ("[V(1)", 5),
                         ("[V(1) ", 6), ("V(1)]", 4), ("[V(1)]]", 6), ("(V(1))", 0), ("dual", 4), ("dual +", 5),
                         ("2", 1), ("2 ", 2), ("2 * V(1)", 2), ("V(1) 2", 5), ("V(1) dual V(1)", 5),
                         ("trivial trivial", 8), ("let", 0), ("let a = trivial;", 0), ("trivial;", 7),
                         ("trivial = trivial", 8), ("=", 0), (";", 0), (",", 0), ("trivial, trivial", 7), ("$", 0),
                         ("trivial $", 8), ("V($", 2), ("\u00e4", 0), ("trivial.", 7), ("trivial/trivial", 7),
                         ("Trivial", 0), ("SYM V(1)", 0), ("_", 0), ("a_b", 1), ("trivial \\", 8), ('"', 0), ("{", 0),
                         ("trivial + \u00e9 + 101 trivial", 10)])
        # what is wrong otherwise is told behind it
        self.bad(A_ONE, [
            ("x + ", 4), ("101 trivial )", 12), ("x x", 2), ("dual dual dual dual dual dual trivial +", 39), ("x $", 2),
            ("abcdefghijklm", 0), ("trivial + abcdefghijklm", 10), ("abcdefghijkl2", 0), ("x + abcdefghijklm", 4),
        ])

    def test_the_most_that_is_open(self):
        for prefix in ("[", "dual ", "sym ", "ext ", "1 ", "0 "):
            close = "]" if prefix == "[" else ""
            text = prefix * 12 + "V(1)" + close * 12
            if prefix == "[":
                self.expressions(A_ONE, [(text, TWO)])
            else:
                # too deep at the 6th one from behind, in whose place trivial stands, and at the 6th one ahead of that
                self.bad(A_ONE, [(text, 0), (text[len(prefix):], len(prefix) * 5)])
            self.bad(A_ONE, [(prefix * 13 + "V(1)" + close * 13, len(prefix) * 12),
                             (prefix * 12 + "[", len(prefix) * 12), (prefix * 12 + "dual", len(prefix) * 12),
                             (prefix * 12 + "1", len(prefix) * 12), (prefix * 12, len(prefix) * 12),
                             (prefix * 12 + "+", len(prefix) * 12)])
        self.expressions(A_ONE, [
            ("[" * 12 + "V(1)" + "]" * 12 + " + " + "[" * 12 + "V(1)" + "]" * 12, ("sum", TWO, TWO)),
            ("[" * 11 + "dual V(1) * dual V(1)" + "]" * 11, ("product", ("dual", TWO), ("dual", TWO))),
            ("[" * 11 + "[V(1)] + [V(1)] * 2 V(1)" + "]" * 11, ("sum", TWO, ("product", TWO, ("times", 2, TWO)))),
            ("dual [dual [dual [dual [2 [[[V(1)]]]]]]]", nested(6, ("times", 2, TWO))),
        ])
        self.bad(A_ONE, [("dual [" * 6 + "dual V(1)" + "]" * 6, 36),
                         ("[" * 11 + "V(1) + dual dual V(1)" + "]" * 11, 23), ("[" * 12 + "V(1) + [", 19),
                         ("dual [" * 6 + "dual", 36), ("2 [" * 6 + "1 V(1)", 18)])

    def test_what_is_closed_is_open_no_more(self):
        for closed in ("[V(1)]", "dual V(1)", "sym V(1)", "2 V(1)", "[2 [dual V(1)]]"):
            for sign in (" + ", " * ", " - "):
                text = (closed + sign) * 3
                at = len(text)
                self.bad(A_ONE, [(text + "[" * 13, at + 12), (text + "[" * 11 + "dual 2", at + 16),
                                 (text + "[" * 12 + "V(1)" + "]" * 13, at + 28), (text + "[" * 12, at + 12)])
                if "[" not in closed:
                    self.bad(A_ONE, [("[" * 11 + text + "[[", at + 12), ("[" * 11 + text + "2 dual", at + 13)])

    def test_deeper_than_6(self):
        six = "dual dual dual dual dual V(1)"
        self.expressions(A_ONE, [(six, nested(6, TWO)), ("V(1)" + " + V(1)" * 5, _row("sum", 6)),
                                 ("V(1)" + " * V(1)" * 5, _row("product", 6)), ("[[[[" + six + "]]]]", nested(6, TWO)),
                                 ])
        self.bad(A_ONE, [("dual " + six, 0), ("2 " + six, 0), ("sym " + six, 0), ("ext " + six, 0),
                         ("dual dual " + six, 5), ("[dual] ", 5), (six + " + trivial", 30), (six + " - trivial", 30),
                         (six + " * trivial", 30), ("trivial + " + six, 8), ("trivial * " + six, 8),
                         ("trivial - [" + six + "]", 8), ("V(1)" + " + V(1)" * 6, 40), ("V(1)" + " * V(1)" * 6, 40),
                         ("V(1)" + " + V(1)" * 9, 40), (six + " + x", 30), ("x + " + six, 0),
                         ("dual [x + " + six + "]", 6)])
        # trivial stands in the place of what is wrong, so that what is around it is not too deep
        self.bad(A_ONE, [
            ("dual dual dual dual dual [" + six + " * " + six + "]", 56), ("dual dual dual dual dual x", 25),
            ("dual dual dual dual dual dual x", 0), ("dual 101 " + six, 5), ("101 " + six, 0), ("dual 100 " + six, 5),
            ("dual dual dual dual dual 101 dual x", 25), ("dual dual dual dual dual dual 101 dual x", 0),
            ("x + 101 trivial", 0), ("101 x", 0), ("trivial - x - 101 y", 10), ("sym 101 x * y", 4),
        ])

    def test_names_are_told_by_no_statement(self):
        for name in ("x", "a1", "abcdefghijkl", "abcdefghijk2", "v", "letx", "let1", "lets", "duals", "symm", "ext2",
                     "trivial1"):
            self.bad(A_ONE, [(name, 0), ("  " + name, 2), ("trivial + dual " + name, 15), (name + " + " + name, 0)])
        for name in ("abcdefghijklm", "a23456789012b", "let", "aB", "a b"):
            spot = {"aB": 1, "a b": 2}.get(name, 0)
            self.bad(A_ONE, [(name, spot)])

    def test_numbers_for_the_rank(self):
        for matrix in small.SOME + small.SOME_OF_FOUR:
            for many in range(1, 6):
                numbers = ", ".join(["1"] * many)
                if many == len(matrix):
                    tree = ("irreducible", (1,) * many)
                    if size_of(matrix, tree) <= 1000:
                        self.assertEqual(read_expression(matrix, f"V({numbers})"), tree)
                    self.assertEqual(read_list(matrix, "let a = V(" + ", ".join(["0"] * many) + ");"),
                                     (("a", ("irreducible", (0,) * many)),))
                else:
                    # a comma is due behind too few, a bracket behind just as many
                    self.bad(matrix, [(f"V({numbers})", 3 * min(many, len(matrix)))])

    def test_too_great_ones(self):
        for text, number in (("V(999) + trivial", 1001), ("2 V(999)", 2000), ("0 2 V(999)", 2000), ("sym V(44)", 1035),
                             ("100 100 100 100 100 V(1)", 2 * 10 ** 10), ("V(999) - V(999)", 2000)):
            with self.assertRaises(TooMany) as caught:
                read_expression(A_ONE, text)
            self.assertEqual(caught.exception.given, number)
        self.bad(A_ONE, [("2 V(999) x", 9), ("2 V(999) + x", 11), ("100 100 100 100 100 100 V(1)", 0)])


def _row(kind, many):
    tree = TWO
    for _ in range(many - 1):
        tree = (kind, tree, TWO)
    return tree


class Lists(Reading):
    def test_lists(self):
        for text, pairs in (
                ("", ()), ("  \n # let a = trivial;", ()), ("let a = V(1);", (("a", TWO),)),
                ("let b = V(1); let a = dual b;", (("a", ("dual", TWO)), ("b", TWO))),
                ("let a=V(1);let b=a*a;", (("a", TWO), ("b", ("product", TWO, TWO)))),
                (" let\nx#;\n=#;\n2 trivial#;\n;#", (("x", ("times", 2, TRIVIAL)),)),
                ("let z = trivial; let abcdefghijkl = [z + z] * z;",
                 (("abcdefghijkl", ("product", ("sum", TRIVIAL, TRIVIAL), TRIVIAL)), ("z", TRIVIAL))),
                ("let a10 = trivial; let a9 = adjoint; let a1 = a9;",
                 (("a1", ADJOINT), ("a10", TRIVIAL), ("a9", ADJOINT))),
                ("let a = dual dual trivial; let b = dual dual a; let c = dual b;",
                 (("a", nested(3)), ("b", nested(5)), ("c", nested(6))))):
            with self.subTest(text):
                self.assertEqual(read_list(A_ONE, text), pairs)
        many = "".join(f"let n{k} = {k} trivial;" for k in range(100))
        self.assertEqual(read_list(A_ONE, many), tuple(sorted((f"n{k}", ("times", k, TRIVIAL)) for k in range(100))))

    def test_the_first_word_that_cannot_go_on(self):
        self.bad_lists(A_ONE, [("trivial", 0), ("let", 3), ("let ", 4), ("let a", 5), ("let a =", 7), ("let a = ;", 8),
                               ("let a = trivial", 15), ("let a = trivial ", 16), ("let a = trivial;;", 16),
                               ("let a trivial;", 6), ("let a = trivial; let", 20), ("a = trivial;", 0),
                               ("let a = trivial; x", 17), ("let let = trivial;", 4), ("let dual = trivial;", 4),
                               ("let V = trivial;", 4), ("let 1 = trivial;", 4), ("let A = trivial;", 4),
                               ("let abcdefghijklm = trivial;", 4), ("let a == trivial;", 7),
                               ("let a = trivial, let b = a;", 15), ("leta = trivial;", 0), ("let a = [trivial;", 16),
                               ("let a = let b = trivial;", 8), ("let a = trivial; $", 17),
                               ("let a = x; let a = 101 a", 24), ("let a = x; let b =", 18), (";", 0),
                               ("let a = trivial;]", 16), ("let trivial = trivial;", 4),
                               ("let sym2 = trivial; let sym = trivial;", 24), ("let adjoint", 4), ("let ext", 4)])

    def test_names(self):
        self.bad_lists(A_ONE, [("let a = a;", 8), ("let a = b; let b = trivial;", 8),
                               ("let a = trivial; let a = trivial;", 21), ("let a = trivial; let a = x;", 21),
                               ("let a = x; let a = trivial;", 8), ("let b = trivial; let a = b + a;", 29),
                               ("let a = trivial; let b = c; let a = d;", 25),
                               ("let a = trivial; let b = 101 a; let b = a;", 25), ("let a = a; let a = a;", 8),
                               ("let a = trivial; let a = a;", 21)])

    def test_depths_through_names(self):
        five = "let a = dual dual dual dual trivial; "
        self.assertEqual(read_list(A_ONE, five + "let b = dual a;")[1], ("b", nested(6)))
        at = len(five)
        self.bad_lists(A_ONE, [(five + "let b = dual dual a;", at + 8), (five + "let b = a + dual a;", at + 10),
                               (five + "let b = 2 a * trivial;", at + 12),
                               (five + "let b = a + a; let c = b - b;", at + 25),
                               (five + "let b = dual a; let c = [b];let d = dual c;", at + 36),
                               ("let a = dual dual dual dual dual dual trivial; let b = dual a;", 8)])

    def test_too_great_ones(self):
        for text, number in (
                ("let b = 2 V(999); let a = 3 V(999);", 3000), ("let b = 2 V(999); let c = 3 V(999);", 2000),
                ("let b = V(999); let a = b + b; let c = 3 a;", 2000), ("let a = V(999); let b = 0 3 a;", 3000)):
            with self.assertRaises(TooMany) as caught:
                read_list(A_ONE, text)
            self.assertEqual(caught.exception.given, number)
        self.bad_lists(A_ONE, [("let b = 2 V(999); let a = x;", 26), ("let b = 2 V(999); let a = 3 V(999)", 34)])


class AgainstStacks(Reading):
    """What is read compared with what a reader by stacks reads."""

    def agree(self, matrix, text):
        for function, kind in ((read_expression, "expression"), (read_list, "list")):
            expected = trees.read(text, len(matrix), kind)
            try:
                made = function(matrix, text)
            except BadText as fault:
                made = fault.spot
            except TooMany:
                made = expected
            if made != expected:
                self.fail((function.__name__, text, made, expected))

    def test_all_rows_of_a_few_words(self):
        for words, most in (("2 dual trivial x + * [ ] V(1)".split(), 5), ("V ( ) , 1 trivial".split(), 6),
                            ("let a b = ; trivial +".split(), 6), ("dual 101 + [ ] x".split(), 6),
                            ("let a = dual ;".split(), 7)):
            for many in range(most + 1):
                for row in product(words, repeat=many):
                    self.agree(A_ONE, " ".join(row))

    def test_long_rows(self):
        words = ("2", "100", "101", "dual", "sym", "ext", "trivial", "x", "+", "-", "*", "[", "]", "V(1, 1)", "adjoint",
                 "dual [", "2 dual sym", "]", "]", "* V(0, 1)", "+ adjoint", "- dual dual dual trivial", "# x\n", "\n",
                 "  ", "[[[", "]]]")
        seed = 7
        for _ in range(20000):
            row = []
            for _ in range(5 + seed % 17):
                seed = (seed * 1103515245 + 12345) % 2 ** 31
                row.append(words[(seed >> 9) % len(words)])
            self.agree(B_TWO, " ".join(row))

    def test_bent_texts(self):
        texts = [
            "2 [V(1, 0) + ext [V(1, 0) * dual V(1, 0)]] - dual dual dual adjoint * 100 sym trivial",
            "[[[[[[[[[[[[V(1, 1)]]]]]]]]]]]] + dual [dual [dual [dual [V(0, 0) * trivial]]]] # end",
        ]
        signs = "V()[],+-*;=# \na1209x$"
        for text in texts:
            for at in range(len(text) + 1):
                self.agree(A_TWO, text[:at])
                self.agree(A_TWO, text[:at] + text[at + 1:])
                for sign in signs:
                    self.agree(A_TWO, text[:at] + sign + text[at:])
                    self.agree(A_TWO, text[:at] + sign + text[at + 1:])

    def test_bent_lists(self):
        text = ("let a = dual dual V(1, 0); let b9 = a * 2 a;# two\n"
                "let c = dual dual a - [sym b9 + x];let a = 101 adjoint;")
        for at in range(len(text) + 1):
            self.agree(A_TWO, text[:at])
            self.agree(A_TWO, text[:at] + text[at + 1:])
            for sign in "V()[],+-*;=# \nab1209x$":
                self.agree(A_TWO, text[:at] + sign + text[at:])
                self.agree(A_TWO, text[:at] + sign + text[at + 1:])


class Printed(Reading):
    def test_what_is_printed_is_read_again(self):
        for matrix in small.ALL_SMALL[::3]:
            for tree in trees.some(matrix)[::3]:
                text = expression_text(matrix, tree)
                self.assertEqual(read_expression(matrix, text), tree)
                self.assertEqual(trees.read(text, len(matrix)), tree)
                self.assertEqual(read_list(matrix, f"let x = {text};let y=[x];"), (("x", tree), ("y", tree)))


if __name__ == "__main__":
    unittest.main()
