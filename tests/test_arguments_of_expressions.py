"""What the functions on expressions, texts, books, pictures, lines and claims do with wrong arguments."""

import unittest

from tests.refusals import NO_EXPRESSIONS, Refusals
from tests.small import A_ONE, B_TWO
from weylweights import books, certificates, checker, console, errors, expressions, pictures, printer, reader

MATRIX = {"matrix": "matrix"}
EXPRESSION = {**MATRIX, "expression": "expression"}
TWO = {**EXPRESSION, "other": "expression"}
BOOK = {"book": "book"}


class Arguments(Refusals, unittest.TestCase):
    FUNCTIONS = (
        (expressions, expressions.is_expression, {**MATRIX, "value": "value"}),
        (expressions, expressions.size_of, {**MATRIX, "expression": "form"}),
        (expressions, expressions.character, EXPRESSION),
        (expressions, expressions.decomposition, EXPRESSION),
        (expressions, expressions.dimension_of, EXPRESSION),
        (expressions, expressions.is_representation, EXPRESSION),
        (expressions, expressions.are_isomorphic, TWO),
        (expressions, expressions.contains, TWO),
        (expressions, expressions.homomorphisms, TWO),
        (expressions, expressions.invariants, EXPRESSION),
        (reader, reader.read_expression, {**MATRIX, "text": "text"}),
        (reader, reader.read_list, {**MATRIX, "text": "list"}),
        (printer, printer.expression_text, EXPRESSION),
        (printer, printer.sum_text, {**MATRIX, "total": "total"}),
        (books, books.is_book, {"value": "value"}),
        (books, books.fresh_book, MATRIX),
        (books, books.does_fit, {**BOOK, "value": "value"}),
        (books, books.changed, {**BOOK, "deed": "deed"}),
        (books, books.undone, BOOK),
        (books, books.done_again, BOOK),
        (pictures, pictures.letters, {**MATRIX, "table": "table"}),
        (pictures, pictures.picture, {**MATRIX, "table": "table"}),
        (pictures, pictures.read_picture, {**MATRIX, "text": "picture"}),
        (console, console.run, {"lines": "lines"}),
        (checker, checker.accepts, {"claim": "value", "paper": "value"}),
        (certificates, certificates.certify_irreducible, {**MATRIX, "weight": "highest"}),
        (certificates, certificates.certify_character, {**MATRIX, "table": "table"}),
        (certificates, certificates.certify_product, {**MATRIX, "weight": "highest", "other": "highest"}),
        (certificates, certificates.certify_same, TWO),
        (certificates, certificates.certify_contains, {**EXPRESSION, "weight": "highest"}),
        (certificates, certificates.certify_finite, {"matrix": "any matrix"}),
    )

    def test_any_value_whatever(self):
        for value in NO_EXPRESSIONS:
            self.assertIs(expressions.is_expression(B_TWO, value), False)
            self.assertIs(books.is_book(value), False)
            self.assertIs(books.does_fit(books.fresh_book(B_TWO), value), False)
            self.assertIs(checker.accepts(value, value), False)

    def test_too_great_texts_come_behind_bad_ones(self):
        for function, text, spot in ((reader.read_expression, "2 V(999) + x", 11),
                (reader.read_list, "let a = 2 V(999); let b = x;", 26)):
            with self.assertRaises(errors.BadText) as caught:
                function(A_ONE, text)
            self.assertEqual(caught.exception.spot, spot)

    def test_nothing_to_undo_comes_last(self):
        for function, error in ((books.undone, errors.NothingToUndo), (books.done_again, errors.NothingToRedo)):
            with self.assertRaises(error):
                function(books.fresh_book(B_TWO))
            with self.assertRaises(errors.InvalidBook):
                function(((B_TWO, ()), (), (None,)))

    def test_results_of_other_functions(self):
        # what was returned may be passed
        total = expressions.decomposition(B_TWO, ("product", ("adjoint",), ("irreducible", (1, 1))))
        self.assertIn("V(0, 1)", printer.sum_text(B_TWO, total))


if __name__ == "__main__":
    unittest.main()
