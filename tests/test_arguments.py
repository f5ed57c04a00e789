"""What each function does with arguments that are wrong, and with arguments by name."""

import unittest
from inspect import signature
from itertools import product as all_choices

from tests import matrices
from tests.matrices import AFFINE, APART, G_TWO, HUGE, INDEFINITE, SNOW, TWO, WILD
from weylweights import cartan, errors, roots, weyl

NINE = matrices.from_edges(9, matrices.chain(9))
DEEP = ()
for _ in range(29):
    DEEP = (DEEP,)
ANY = (None, True, False, 0, 7, -HUGE, "", "A2", b"\x00", [], {}, {1}, frozenset(), object(), int, len, ..., 1j, DEEP)

WRONG = {
    "matrix": (
        *ANY, (), NINE, [[2]], ([2],), [(2,)], ((True,),), ((2, 0),), ((2, -1), (0, 2)), ((2, 1), (1, 2)),
        ((2, -1), (-1, 2), (0, 0)), ((2, -1), [-1, 2]), ((2, "-1"), (-1, 2)), ((2, -True), (-1, 3)),
        ((2, False), (False, 2)),
    ),
    "vector": (*ANY, (), (1,), (1, 1, 1), [1, 1], (1, True), (False, 1), ("1", 1), (1, None), ((1, 1),), (1, [1])),
    "node": (*[value for value in ANY if not (type(value) is int and value == 0)], -1, 2, HUGE, "0", (0,), [0]),
    "root": (
        *ANY, (), (0, 0), (1,), (1, 0, 0), [1, 0], (2, 0), (1, -1), (True, 0), (1, False), (1, "0"), (HUGE, HUGE),
        (-1, -3), (HUGE, -HUGE), (1, [0]), (1, {}), ((1, 0),),
    ),
    "weight": (*ANY, (), (1,), (1, 1, 1), [1, 1], (1, True), (False, 1), ("1", 1), (1, None), ((1, 1),), (1, [1])),
    "word": (
        *ANY, (0,) * 301, [0, 1], (2,), (0, -1), (0, True), (False,), ("0",), (None,), ((0,),),
        (0, HUGE), (0, [1]), "01", {0: 1},
    ),
}
WRONG["other"] = WRONG["root"]
WRONG["other_word"] = WRONG["word"]
ERRORS = {
    "matrix": errors.InvalidMatrix, "vector": errors.InvalidVector, "node": errors.InvalidNode,
    "root": errors.InvalidRoot, "other": errors.InvalidRoot, "weight": errors.InvalidWeight,
    "word": errors.InvalidWord, "other_word": errors.InvalidWord,
}
RIGHT = {
    "matrix": G_TWO, "vector": (3, -HUGE), "node": 1, "root": (-2, -1), "other": (3, 2), "weight": (0, -5),
    "word": (0, 1, 0), "other_word": (1,) * 300, "value": (3, 1),
}
CARTAN = [
    (cartan.is_matrix, "value"), (cartan.parts_of, "matrix"), (cartan.kinds_of, "matrix"), (cartan.shown_by, "matrix"),
    (cartan.times_vector, "matrix vector"), (cartan.symmetrizer_of, "matrix"), (cartan.determinant_of, "matrix"),
]
FINITE = [
    (roots.positive_roots, "matrix"), (roots.is_root, "matrix value"), (roots.height_of, "matrix root"),
    (roots.reflected, "matrix node root"), (roots.highest_roots, "matrix"), (roots.exponents_of, "matrix"),
    (roots.coroot_of, "matrix root"), (roots.value_at, "matrix root other"), (roots.string_of, "matrix root other"),
    (weyl.led, "matrix word weight"), (weyl.least_word, "matrix word"), (weyl.length_of, "matrix word"),
    (weyl.product, "matrix word other_word"), (weyl.inverse, "matrix word"), (weyl.order_of, "matrix word"),
    (weyl.longest, "matrix"), (weyl.made_negative, "matrix word"), (weyl.counts_by_length, "matrix"),
    (weyl.how_many, "matrix"),
]
ALL = CARTAN + FINITE


class Arguments(unittest.TestCase):
    def refused(self, function, arguments, name):
        """That the function refuses just the argument of this name."""
        with self.assertRaises(ERRORS[name]) as caught:
            function(*arguments.values())
        self.assertIs(type(caught.exception), ERRORS[name])
        self.assertIs(caught.exception.given, arguments[name])
        with self.assertRaises(ERRORS[name]) as caught:
            function(**dict(reversed(list(arguments.items()))))
        self.assertIs(caught.exception.given, arguments[name])

    def test_parameters_have_the_names_that_the_document_tells(self):
        for function, names in ALL:
            self.assertEqual(list(signature(function).parameters), names.split())

    def test_functions_are_defined_where_the_document_lists_them(self):
        for module, functions in ((cartan, CARTAN), (roots, FINITE[:9]), (weyl, FINITE[9:])):
            for function, _ in functions:
                self.assertEqual(function.__module__, module.__name__)

    def test_by_name_as_by_position_and_again(self):
        for function, names in ALL:
            arguments = {name: RIGHT[name] for name in names.split()}
            result = function(*arguments.values())
            self.assertEqual(function(**dict(reversed(list(arguments.items())))), result)
            self.assertEqual(function(*arguments.values()), result)

    def test_each_wrong_argument(self):
        for function, names in ALL:
            for name in names.split():
                for wrong in WRONG.get(name, ()):
                    with self.subTest(function=function.__name__, name=name, wrong=wrong):
                        arguments = {each: RIGHT[each] for each in names.split()}
                        arguments[name] = wrong
                        self.refused(function, arguments, name)

    def test_the_first_wrong_argument_of_several(self):
        for function, names in ALL:
            names = names.split()
            for choice in all_choices((False, True), repeat=len(names)):
                wrong = [name for name, is_wrong in zip(names, choice) if is_wrong and name in WRONG]
                if wrong:
                    with self.subTest(function=function.__name__, wrong=wrong):
                        # unlike values, so that it is seen which one was refused
                        arguments = {name: WRONG[name][-1 - at] if name in wrong else RIGHT[name]
                                     for at, name in enumerate(names)}
                        self.refused(function, arguments, wrong[0])

    def test_not_finite_comes_behind_the_matrix_and_ahead_of_all_else(self):
        infinite = [SNOW, WILD, *AFFINE[:8], *INDEFINITE, matrices.together(TWO, SNOW), matrices.together(WILD, APART)]
        for function, names in FINITE:
            for matrix in infinite:
                with self.subTest(function=function.__name__, matrix=matrix):
                    for values in (RIGHT, {name: None for name in RIGHT}):
                        with self.assertRaises(errors.NotFinite) as caught:
                            function(matrix, *[values[name] for name in names.split()[1:]])
                        self.assertIs(type(caught.exception), errors.NotFinite)
        for function, names in CARTAN[1:]:
            for matrix in (SNOW, WILD):
                function(matrix, *[RIGHT[name] for name in names.split()[1:]])

    def test_whether_a_matrix_is_one_is_told_ahead_of_whether_a_value_is_a_root(self):
        for wrong in WRONG["matrix"]:
            with self.assertRaises(errors.InvalidMatrix) as caught:
                roots.is_root(wrong, (1, 0))
            self.assertIs(caught.exception.given, wrong)

    def test_nodes_are_not_counted_from_the_end(self):
        for node in (-1, -2, 2, 3):
            with self.assertRaises(errors.InvalidNode):
                roots.reflected(TWO, node, (1, 0))
            with self.assertRaises(errors.InvalidWord):
                weyl.led(TWO, (0, node), (1, 1))
        self.assertEqual(roots.reflected(TWO, 0, (1, 0)), (-1, 0))

    def test_words_of_up_to_300_nodes(self):
        word = (0, 1) * 150
        for function, names in FINITE[9:]:
            names = names.split()
            for name in names:
                if name in ("word", "other_word"):
                    arguments = {each: RIGHT[each] for each in names}
                    function(*{**arguments, name: word}.values())
                    self.refused(function, {**arguments, name: (*word, 0)}, name)

    def test_no_argument_is_changed(self):
        matrix = [[2, -3], [-1, 2]]
        before = [list(row) for row in matrix]
        for function, names in ALL[1:]:
            with self.assertRaises(errors.InvalidMatrix):
                function(matrix, *[RIGHT[name] for name in names.split()[1:]])
        self.assertEqual(matrix, before)


if __name__ == "__main__":
    unittest.main()
