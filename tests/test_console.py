import unittest

from tests import small, trees
from tests.small import A_ONE, A_TWO, B_TWO
from weylweights import books, expressions, pictures
from weylweights.console import run
from weylweights.errors import InvalidLines
from weylweights.levis import restricted
from weylweights.printer import expression_text, sum_text
from weylweights.types import matrix_of

SMALL_TYPES = ("A1", "A2", "B2", "G2", "A1 A1", "A3", "B3", "C3", "A2 A1", "D4", "B2 A1", "A1 A1 A1 A1")


class Desk(unittest.TestCase):
    def answers(self, *pairs):
        """That each line, in this order, is answered by its text."""
        made = run(tuple(line for line, _ in pairs))
        for (line, answer), told in zip(pairs, made, strict=True):
            with self.subTest(line=line):
                self.assertEqual(told, answer)

    def alone(self, kind, *pairs):
        """That each line, said to a fresh desk of the type with an entry v, is answered by its text."""
        for line, answer in pairs:
            with self.subTest(line=line):
                self.assertEqual(run((f"type {kind}", "let v = 2 trivial", line))[2], answer)


class Examples(Desk):
    def test_of_the_document(self):
        self.assertEqual(run(("type A2", "let v = V(1, 0)", "decompose v * dual v", "dimension adjoint",
                              "same sym v = V(2, 0)", "homs v = dual v", "is trivial - v", "restrict 0", "show", "undo",
                              "letters v")), ('done', '1 entries', 'V(0, 0) + V(1, 1)', '8', 'yes', '0', 'virtual',
                                              '1 entries', 'v = V(0) + V(1)', '1 entries', '1..\n..1\n.1.'))
        self.assertEqual(run(("letters trivial", "dimension V(1", "decompose w", "forget w", "type X9", "")),
                         ('no picture', 'BadText 13', 'BadText 10', 'does not fit', '?', ''))


class Lines(Desk):
    def test_tuples_of_up_to_200_strings(self):
        self.assertEqual(run(()), ())
        self.assertEqual(run(lines=("show",) * 200), ("nothing",) * 200)
        for lines in (None, True, 0, "", "show", [], ["show"], {}, {"show"}, object(), ("show",) * 201, (None,) * 201,
                      b"show"):
            with self.assertRaises(InvalidLines) as caught:
                run(lines)
            self.assertIsNone(caught.exception.index)
        for wrong in (None, True, 0, b"show", ["show"], ("show",), object()):
            for at in (0, 1, 5, 199):
                lines = ["show"] * 200
                lines[at:] = [wrong] * (200 - at)
                with self.assertRaises(InvalidLines) as caught:
                    run(tuple(lines))
                self.assertEqual(caught.exception.index, at)

    def test_each_run_has_its_own_desk(self):
        self.assertEqual(run(("let a = trivial", "show")), ("1 entries", "a = V(0)"))
        self.assertEqual(run(("show",)), ("nothing",))

    def test_blank_lines(self):
        for line in ("", " ", "      "):
            self.assertEqual(run((line,)), ("",))
        for line in ("\n", "\t", " \n", "#", "# type A2", " # "):
            self.assertEqual(run((line,)), ("?",))


class Commands(Desk):
    def test_the_first_desk(self):
        self.answers(("dimension V(3)", "4"), ("dimension V(1, 0)", "BadText 13"), ("undo", "nothing there"),
                     ("redo", "nothing there"), ("show", "nothing"), ("dimension adjoint", "3"))

    def test_type(self):
        for name in SMALL_TYPES:
            matrix = matrix_of(name)
            numbers = ", ".join(["0"] * len(matrix))
            self.answers((f"type {name}", "done"),
                         ("dimension adjoint", str(len(small.positive_roots(matrix)) * 2 + len(matrix))),
                         (f"decompose V({numbers})", f"V({numbers})"))
        self.answers(("type  A1   A1 ", "done"), ("dimension adjoint", "6"), ("  type A2", "done"),
                     ("dimension adjoint", "8"))
        for line in ("type", "type ", "type   ", "type X9", "type A0", "type A", "type a2", "type A2A1", "type A5",
                     "type A4 A1", "type E8", "type A1 A1 A1 A1 A1", "type B1", "type C2", "type A2,", "type A2 #",
                     "type A2 # A1", "type # A2", "type\tA2", "type A2\n", "type A1\nA1", "type D3", "types A2",
                     "Type A2", "TYPE A2", "type A2 = A1", "type=A2", "typeA2"):
            self.alone("B2", (line, "?"))
            self.answers(("type B2", "done"), ("let v = adjoint", "1 entries"), (line, "?"), ("show", "v = V(0, 2)"),
                         ("undo", "0 entries"))

    def test_type_makes_a_fresh_book(self):
        self.answers(("let a = V(1)", "1 entries"), ("let b = a", "2 entries"), ("undo", "1 entries"),
                     ("type A1", "done"), ("show", "nothing"), ("undo", "nothing there"), ("redo", "nothing there"))

    def test_let(self):
        self.answers(
            ("let a = V(1)", "1 entries"), ("let b=a*a", "2 entries"), ("let c= b", "3 entries"),
            ("let d =c", "4 entries"), ("  let   e   =   d  ", "5 entries"), ("let a = a + a", "5 entries"),
            ("let abcdefghijk9=trivial # two", "6 entries"),
            ("show", "a = 2 V(1)\nabcdefghijk9 = V(0)\nb = V(0) + V(2)\nc = V(0) + V(2)\nd = V(0) + V(2)\n"
             "e = V(0) + V(2)"),
            ("let v = 0 a", "7 entries"), ("let v = v", "7 entries"), ("forget abcdefghijk9", "6 entries"),
            ("let a = trivial - 2 a", "6 entries"), ("decompose a", "V(0) - 4 V(1)"), ("decompose v", "0"),
            ("decompose v + v", "0"))
        for line in ("let", "let ", "let  ", "let a", "let ab", "let a V(1)", "let a V(1) ;", "let V = V(1)",
                     "let A = V(1)", "let let = V(1)", "let dual = V(1)", "let trivial = V(1)", "let ext = V(1)",
                     "let 1 = V(1)", "let 1a = V(1)", "let = V(1)", "let  =", "let =", "let abcdefghijklm = V(1)",
                     "let a b = V(1)", "let a_b = V(1)", "let #a = V(1)", "let a# = V(1)", "let a\n = V(1)",
                     "let\na = V(1)", "let\ta = V(1)", "leta = V(1)", "let=V(1)", "let a(1) = V(1)", "Let a = V(1)",
                     "let \u00e4 = V(1)", "let V = $", "let 1 = 2 V(999)"):
            self.answers(("let v = V(2)", "1 entries"), (line, "?"), ("show", "v = V(2)"))
        self.alone("A1", ("let a = ", "BadText 8"), ("let a =", "BadText 7"), ("let a=", "BadText 6"),
                   ("let a = b", "BadText 8"), ("let a = a", "BadText 8"), ("let a == V(1)", "BadText 7"),
                   ("let a = V(1) = V(1)", "BadText 13"), ("let a = V(1);", "BadText 12"),
                   ("let a = V(1) +   ", "BadText 17"), ("let a = # V(1)", "BadText 14"),
                   ("let a = V(1, 0)", "BadText 11"), ("let a = 101 v", "BadText 8"), ("  let a = $", "BadText 10"),
                   ("let a = let b = V(1)", "BadText 8"), ("let a = 2 V(999)", "too great"),
                   ("let a = 501 v", "BadText 8"), ("let a = 5 100 v", "2 entries"), ("let a = 6 100 v", "too great"),
                   ("let a =\nV(1)\n", "2 entries"), ("let v = 5 v", "1 entries"))

    def test_20_entries_and_21(self):
        lines = [(f"let n{k} = {k} trivial", f"{k + 1} entries") for k in range(20)]
        self.answers(*lines, ("let z = trivial", "does not fit"), ("let n3 = trivial", "20 entries"),
                     ("let z = $", "BadText 8"), ("let z = 2 V(999)", "too great"), ("let z = y", "BadText 8"),
                     ("forget n0", "19 entries"), ("let z = trivial", "20 entries"),
                     ("let n0 = trivial", "does not fit"), ("undo", "19 entries"), ("redo", "20 entries"),
                     ("decompose n19 - n18", "V(0)"))

    def test_forget(self):
        self.answers(("let a = V(1)", "1 entries"), ("let b = V(2)", "2 entries"), ("forget a", "1 entries"),
                     ("forget a", "does not fit"), ("  forget   b  ", "0 entries"), ("forget b", "does not fit"),
                     ("undo", "1 entries"), ("show", "b = V(2)"), ("forget abcdefghijkl", "does not fit"),
                     ("forget z", "does not fit"))
        for line in ("forget", "forget ", "forget v v", "forget v w", "forget V", "forget 1", "forget let",
                     "forget trivial", "forget v #", "forget #v", "forget v,w", "forget abcdefghijklm", "forget V(1)",
                     "forget =", "forget v =", "forget v\n", "forgetv", "Forget v", "forget\tv"):
            self.alone("A1", (line, "?"))

    def test_forget_names_whole(self):
        self.answers(("let xax = V(1)", "1 entries"), ("let a = V(2)", "2 entries"), ("forget xa", "does not fit"),
                     ("forget ax", "does not fit"), ("forget xax", "1 entries"), ("show", "a = V(2)"))

    def test_restrict(self):
        self.alone("A2", ("restrict 0", "1 entries"), ("restrict 1", "1 entries"), ("restrict 0 1", "1 entries"),
                   ("  restrict   0    1  ", "1 entries"))
        for line in ("restrict 2", "restrict 0 2", "restrict 1 0", "restrict 0 0", "restrict 0 1 2", "restrict 7",
                     "restrict 10", "restrict " + "9" * 30, "restrict 0 1 1", "restrict " + "1 " * 50):
            self.alone("A2", (line, "does not fit"))
        for line in ("restrict", "restrict ", "restrict x", "restrict -1", "restrict +1", "restrict 00", "restrict 01",
                     "restrict 0 01", "restrict 0,1", "restrict (0)", "restrict 0 #", "restrict # 0", "restrict v",
                     "restrict 0x", "restrict \u0661", "restrict \u00b2", "restrict 0\n1", "restrict0", "restrict 1.",
                     "restrict 0 =", "restrict 07 0", "restrict 0 1_0"):
            self.alone("A2", (line, "?"))
        self.answers(("type B2 A1", "done"), ("let s = V(0, 1, 1)", "1 entries"), ("restrict 0 2", "1 entries"),
                     ("show", "s = 2 V(0, 1) + V(1, 1)"), ("dimension adjoint", "6"),
                     ("let t = V(1, 1) - s", "2 entries"), ("restrict 1", "2 entries"),
                     ("show", "s = 4 V(1)\nt = -2 V(1)"), ("restrict 1", "does not fit"), ("restrict 0", "2 entries"))

    def test_undo_and_redo(self):
        self.answers(("let a = V(1)", "1 entries"), ("let a = V(2)", "1 entries"), ("let b = a", "2 entries"),
                     ("undo", "1 entries"), ("undo", "1 entries"), ("show", "a = V(1)"), ("redo", "1 entries"),
                     ("show", "a = V(2)"), (" redo  ", "2 entries"), ("redo", "nothing there"), ("undo", "1 entries"),
                     ("let c = V(0)", "2 entries"), ("redo", "nothing there"), ("show", "a = V(2)\nc = V(0)"),
                     ("undo", "1 entries"), ("undo", "1 entries"), ("undo", "0 entries"), ("undo", "nothing there"),
                     ("decompose a", "BadText 10"), ("redo", "1 entries"), ("decompose a", "V(1)"))
        pairs = [(f"let a = {k} trivial", "1 entries") for k in range(1, 25)]
        pairs += [("undo", "1 entries")] * 20 + [("undo", "nothing there"), ("show", "a = 4 V(0)")]
        pairs += [("redo", "1 entries")] * 20 + [("redo", "nothing there"), ("show", "a = 24 V(0)")]
        self.answers(*pairs)
        for line in ("undo 1", "undo undo", "redo #", "undo #", "redo = ", "undo\n", "Undo", "undone", "redo v"):
            self.alone("A1", (line, "?"))

    def test_what_is_wrong_changes_nothing(self):
        state = [("show", "v = V(1)"), ("undo", "0 entries"), ("redo", "1 entries")]
        for line, answer in (("let v = w", "BadText 8"), ("let v = 2 V(999)", "too great"),
                             ("forget w", "does not fit"), ("restrict 3", "does not fit"), ("type A9", "?"),
                             ("letters v", "no picture"), ("redo", "nothing there"), ("what", "?"), ("", ""),
                             ("let V = v", "?"), ("dimension v", "2"), ("same v = v", "yes"),
                             ("decompose x", "BadText 10")):
            self.answers(("let v = V(1)", "1 entries"), (line, answer), *state)

    def test_show(self):
        self.alone("A2", ("show", "v = 2 V(0, 0)"), ("  show   ", "v = 2 V(0, 0)"), ("show v", "?"), ("show #", "?"),
                   ("show\n", "?"), ("shows", "?"))
        self.answers(("let a10 = V(3) - 2 V(1)", "1 entries"), ("let a9 = 0 trivial", "2 entries"),
                     ("let a1 = adjoint", "3 entries"), ("show", "a1 = V(2)\na10 = -2 V(1) + V(3)\na9 = 0"))

    def test_questions(self):
        self.alone("A2", ("dimension V(1, 1) * v", "16"), ("dimension v - V(1, 0)", "-1"), ("dimension v - v", "0"),
                   ("dimension 0 v", "0"), ("invariants V(1, 0) * V(0, 1) - 5 trivial", "-4"),
                   ("invariants V(1, 0)", "0"), ("invariants v + v", "4"), ("decompose 0 v", "0"),
                   ("decompose V(1, 0) * V(1, 0) - v", "-2 V(0, 0) + V(0, 1) + V(2, 0)"), ("is v", "representation"),
                   ("is v - trivial", "representation"), ("is v - 2 trivial", "representation"),
                   ("is v - 3 trivial", "virtual"), ("letters v", "2"), ("letters v - v", "nothing"),
                   ("letters trivial - v - v", "-"), ("letters 6 v", "#"), ("letters V(1, 0) + 3 v", "1..\n.61\n.1."),
                   ("letters V(199, 0)", "too great"), ("dimension sym v", "3"), ("dimension ext v", "1"),
                   ("dimension dual v", "2"))
        self.alone("A1 A1", ("letters V(99, 0)", ".".join("1" * 100)), ("letters V(100, 0)", "no picture"),
                   ("letters V(0, 99) - V(0, 99)", "nothing"), ("letters V(0, 99)", "\n.\n".join("1" * 100)),
                   ("letters V(0, 100)", "no picture"), ("letters V(0, 100) - V(0, 100)", "nothing"))
        for kind in ("A1", "A3", "A1 A1 A1"):
            self.alone(kind, ("letters v", "no picture"), ("letters v - v", "no picture"), ("letters w", "BadText 8"),
                       ("letters 6 100 v", "too great"), ("letters", "?"))

    def test_comparisons(self):
        self.alone("A2", ("same v = trivial + trivial", "yes"), ("same v=v", "yes"), ("same v = trivial", "no"),
                   ("same v - v = 0 v", "yes"), ("contains v = trivial", "yes"), ("contains trivial = v", "no"),
                   ("contains v = 0 v", "yes"), ("contains v=trivial-adjoint", "yes"), ("homs v = v", "4"),
                   ("homs v = trivial - 2 v", "-6"), ("homs v=adjoint", "0"), ("homs adjoint = adjoint * adjoint", "2"),
                   ("  same   v  =  v  ", "yes"), ("same v#\n=\nv # v", "yes"), ("same v # = v", "yes"),
                   ("same V(1, 0) = dual V(0, 1)", "yes"))

    def test_what_is_not_understood(self):
        for line in ("what", "xshow", "x show", "showx", "dimension", "dimension ", "dimension   ", "  decompose", "is",
                     "is  ", "invariants", "letters ", "same", "same  ", "contains", "homs", "same v", "same v v",
                     "same v, v", "contains v", "homs v", "same v = v = v", "homs v == v", "contains = = =", "v",
                     "V(1)", "trivial", "Dimension v", "dimensionv", "dimension=v", "same=v", "samev = v", "dim v",
                     "decompose: v", "#", "# show", "= v", "let", "?", "show = v", "dimension\nv", "dimension\tv",
                     "same v # = v = v", "?  ", "BadText", "same v # v"):
            self.alone("A2", (line, "?"))

    def test_places_in_the_whole_line(self):
        self.alone(
            "A2", ("dimension V(1", "BadText 13"), ("  dimension V(1", "BadText 15"), ("dimension   V(1", "BadText 15"),
            ("dimension V(1  ", "BadText 15"),
            ("dimension w", "BadText 10"), ("dimension v + w", "BadText 14"), ("dimension v w", "BadText 12"),
            ("dimension v = v", "BadText 12"),
            ("dimension = v", "BadText 10"), ("dimension #", "BadText 11"), ("dimension # v", "BadText 13"),
            ("dimension \n", "BadText 11"),
            ("dimension v;", "BadText 11"), ("dimension $", "BadText 10"), ("dimension 101 v", "BadText 10"),
            ("is v + ", "BadText 7"),
            ("decompose dual dual dual dual dual dual v", "BadText 10"),
            ("decompose dual dual dual dual dual v", "2 V(0, 0)"),
            ("letters v\t", "BadText 9"), ("invariants \tv", "BadText 11"), ("dimension let a = v", "BadText 10"),
            ("dimension adjoint adjoint", "BadText 18"),
            # where two are asked for
            ("same w = v", "BadText 5"), ("same v = w", "BadText 9"), ("same w = x", "BadText 5"),
            ("same = v", "BadText 5"), ("same   = v", "BadText 7"),
            ("same v =", "BadText 8"), ("same v =  ", "BadText 10"), ("same =", "BadText 5"),
            ("same v + = v", "BadText 9"), ("same v +   = v", "BadText 11"),
            ("same v + # = v", "BadText 11"), ("homs # = #", "BadText 7"), ("homs v = # ", "BadText 11"),
            ("contains V(1 = v", "BadText 13"),
            ("contains v = V(1", "BadText 16"), ("  same [v = v]", "BadText 10"), ("same v = v]", "BadText 10"),
            ("same v = v v", "BadText 11"),
            ("same 101 v = w", "BadText 5"), ("homs w = 6 100 v", "BadText 5"), ("homs 6 100 v = w", "too great"),
            ("homs 6 100 v = ", "too great"),
            ("homs v = 6 100 v", "too great"), ("homs 6 100 w = v", "BadText 11"), ("homs 6 100 v + = v", "BadText 15"),
            ("same v = 101 6 100 v", "BadText 9"))

    def test_sizes(self):
        self.alone("A1", ("dimension V(999)", "1000"), ("dimension V(1000)", "too great"),
                   ("dimension V(999) + trivial", "too great"), ("dimension V(99999999999999999999)", "too great"),
                   ("dimension V(999999999999999999999)", "BadText 12"), ("is V(998) - trivial", "virtual"),
                   ("is V(999) - trivial", "too great"), ("dimension V(499) * v", "1000"),
                   ("dimension V(500) * v", "too great"), ("is sym V(44)", "too great"),
                   ("is sym V(43)", "representation"), ("dimension 0 V(1000)", "too great"),
                   ("dimension 101 V(1000)", "BadText 10"))
        self.answers(("let n = 0 trivial", "1 entries"), ("dimension V(999) + n", "too great"),
                     ("dimension V(998) + n", "999"), ("dimension V(999) * n", "0"),
                     ("let m = V(499) - V(499)", "2 entries"), ("decompose V(998) + m", "V(998)"))


class Names(Desk):
    def test_names_in_expressions(self):
        self.answers(("let lets = V(1)", "1 entries"), ("let vv = lets", "2 entries"),
                     ("let duals = V(2)", "3 entries"), ("decompose lets*duals", "V(1) + V(3)"),
                     ("decompose dual duals", "V(2)"), ("decompose vv lets", "BadText 13"),
                     ("decompose 2lets", "2 V(1)"), ("decompose 2 lets2", "BadText 12"), ("decompose [vv]", "V(1)"),
                     ("decompose v", "BadText 10"), ("decompose named", "BadText 10"),
                     ("decompose abcdefghijklm", "BadText 10"), ("decompose lets - lets2 $", "BadText 23"))

    def test_a_name_is_1_deep(self):
        self.answers(("let a = dual dual dual dual dual V(1)", "1 entries"),
                     ("let b = dual dual dual dual dual a", "2 entries"),
                     ("decompose dual dual dual dual dual b", "V(1)"),
                     ("decompose dual dual dual dual dual dual b", "BadText 10"))


class WithTheFunctions(Desk):
    def test_the_console_tells_what_the_functions_tell(self):
        for name in ("A1", "A2", "B2", "G2", "A1 A1", "B3", "A2 A1", "D4"):
            matrix = matrix_of(name)
            for tree in trees.some(matrix)[::21]:
                text = expression_text(matrix, tree)
                other = trees.some(matrix, 300)[5]
                both = f"{text} = {expression_text(matrix, other)}"
                arguments = matrix, tree, other
                self.answers(
                    (f"type {name}", "done"), (f"dimension {text}", str(expressions.dimension_of(matrix, tree))),
                    (f"decompose {text}", sum_text(matrix, expressions.decomposition(matrix, tree))),
                    (f"invariants {text}", str(expressions.invariants(matrix, tree))),
                    (f"is {text}", "representation" if expressions.is_representation(matrix, tree) else "virtual"),
                    (f"same {both}", "yes" if expressions.are_isomorphic(*arguments) else "no"),
                    (f"contains {both}", "yes" if expressions.contains(*arguments) else "no"),
                    (f"homs {both}", str(expressions.homomorphisms(*arguments))), (f"let x = {text}", "1 entries"),
                    ("show", f"x = {sum_text(matrix, expressions.decomposition(matrix, tree))}"),
                    ("same x = " + text, "yes"))
                if len(matrix) == 2:
                    rows = pictures.letters(matrix, expressions.character(matrix, tree))
                    self.alone(name, (f"letters {text}", "\n".join(rows) or "nothing"))

    def test_the_books(self):
        for name in ("A2", "B2", "B3", "A2 A1"):
            matrix = matrix_of(name)
            found = trees.some(matrix, 100)[::31]
            book, lines = books.fresh_book(matrix), [f"type {name}"]
            for at, tree in enumerate(found):
                book = books.changed(book, ("define", f"n{at}", tree))
                lines.append(f"let n{at} = {expression_text(matrix, tree)}")
            for nodes in ((0, 1), (1,)):
                book = books.changed(book, ("restrict", nodes))
                lines.append("restrict " + " ".join(map(str, nodes)))
            shown = "\n".join(f"{key} = {sum_text(book[0][0], total)}" for key, total in book[0][1])
            self.assertEqual(run((*lines, "show"))[-1], shown)
            before = books.undone(book)
            shown = "\n".join(f"{key} = {sum_text(before[0][0], total)}" for key, total in before[0][1])
            self.assertEqual(run((*lines, "undo", "show"))[-1], shown)
            self.assertEqual(run((*lines, "undo", "redo", "show"))[-1], run((*lines, "show"))[-1])

    def test_restriction_from_the_roots_up(self):
        for matrix, name in ((A_TWO, "A2"), (B_TWO, "B2")):
            total = expressions.decomposition(matrix, ("adjoint",))
            for node in (0, 1):
                self.assertEqual(run((f"type {name}", "let a = adjoint", f"restrict {node}", "decompose a"))[-1],
                                 sum_text(A_ONE, restricted(matrix, (node,), total)))


if __name__ == "__main__":
    unittest.main()
