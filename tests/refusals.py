"""Wrong arguments of the functions from weights on, and the errors that they have to raise."""

from inspect import signature
from itertools import combinations

from tests import matrices, small
from tests.matrices import HUGE
from tests.small import B_TWO
from weylweights import errors

DEEP = ()
for _ in range(27):
    DEEP = (DEEP,)
ANY = (None, True, False, -HUGE, "", "A2", b"\x00", [], {}, {1}, frozenset(), object(), int, len, ..., 1j, DEEP)
NINE = matrices.from_edges(9, matrices.chain(9))
GREAT = (HUGE + 1) * (2 * HUGE + 3) * (HUGE + 2) // 6

NO_MATRICES = (
    *ANY, 0, 7, (), NINE, [[2]], ([2],), [(2,)], ((True,),), ((2, 0),), ((2, -1), (0, 2)), ((2, 1), (1, 2)),
    ((2, -1), (-1, 2), (0, 0)), ((2, -1), [-1, 2]), ((2, "-1"), (-1, 2)), ((2, False), (False, 2)),
)
NO_WEIGHTS = (
    *ANY, 0, 7, (), (1,), (1, 1, 1), [1, 1], (1, True), (False, 1), ("1", 1), (1, None), ((1, 1),), (1, [1]),
    ((1,), (1,)),
)
NOT_DOMINANT = ((-1, 0), (0, -1), (-HUGE, HUGE), (5000, -1), (-1, -1))
NO_TABLES = (
    *ANY, 0, 7, (1,), (None,), ((),), ("ab",), (((1, 0),),), (((1, 0), 1, 1),), ([(1, 0), 1],), [((1, 0), 1)],
    (((1, 0), 0),), (((1, 0), True),), (((1, 0), False),), (((1, 0), None),), (((1, 0), "1"),), (((1, 0), (1,)),),
    (([1, 0], 1),), (((1,), 1),), (((1, 0, 0), 1),), (((True, 0), 1),), (((1, None), 1),), (("10", 1),), ((1, (1, 0)),),
    (((1, 0), 1), ((0, 1), 1)), (((0, 1), 1), ((0, 1), 1)), (((0, 1), 1), ((0, 1), 2)), (((0, 1), 1), None),
    (((0, 1), 1), ((1, 0), 0)), ((0, 1), 1), (((0, 1), 1), [(1, 0), 1]), ((((0, 1), 1),),), ((((0, 1),), 1),),
    # not ascending or of count 0, and too great, too
    (((9, 9), 1), ((0, 1), 1)), (((0, 1), 0), ((99, 99), 1000)), (((0, 1), 5000), ((0, 1), 5000)),
)
NO_SUMS = (*NO_TABLES, (((0, -1), 1),), (((-1, 0), 1), ((0, 0), 1)), (((0, 0), 1), ((1, -1), 1)), (((-1, 99), 1000),))
ONE, HALF = (1, 1), (1, 2)
NO_PATHS = (
    *ANY, 0, 7, (), (1,), (None,), ((),), ("ab",), (((1, 0),),), (((1, 0), ONE, ONE),), ([(1, 0), ONE],),
    [((1, 0), ONE)], ((1, 0), ONE), (((1, 0), 1),), (((1, 0), "1"),), (((1, 0), None),), (((1, 0), [1, 1]),),
    (((1, 0), (1,)),), (((1, 0), (1, 1, 1)),), (((1, 0), (True, 1)),), (((1, 0), (1, True)),), (((1, 0), (None, 1)),),
    (((1, 0), (2, 2)),), (((1, 0), (-1, -1)),), (((1, 0), (0, 1)),), (((1, 0), (1, 0)),), (((1, 0), HALF),),
    (((1, 0), (2, 1)),), (((1, 0), (3, 2)),), (([1, 0], ONE),), (((1,), ONE),), (((1, 0, 0), ONE),),
    (((True, 0), ONE),), (((1, None), ONE),), (("10", ONE),), (((1, 0), HALF), ((1, 0), HALF)),
    (((1, 0), HALF), ((0, 1), HALF)),
    (((1, 0), HALF), ((-1, 2), HALF)), (((1, 0), ONE), ((-1, 2), (0, 1))), (((1, -2), HALF), None),
    (((-1, 2), HALF), ((1, -2), HALF)), (((1, -2), (2, 4)), ((-1, 2), HALF)), (((1, -2), (1, 3)), ((-1, 2), (2, 3))),
    (((1, -2), HALF), ((-1, 2), (1, 3)), ((1, -2), (1, 6))), (((1, -2), (3, 2)), ((-1, 2), (-1, 2))),
    (((40, 40), ONE),), (((HUGE, -HUGE), ONE),), (((0, 99), ONE),),
)
THREE = ("irreducible", (1, 0))
NO_EXPRESSIONS = (
    *ANY, 0, 7, (), ("x",), ["trivial"], "trivial", ("trivial", 1), ("irreducible", (1,)), ("irreducible", (1, -1)),
    ("irreducible", [1, 0]), ("irreducible", (True, 0)), ("sum", THREE), ("less", THREE, 0), ("product", 0, THREE),
    ("times", 101, THREE), ("times", -1, THREE), ("times", True, THREE), ("times", THREE, 2), ("dual", "trivial"),
    ("symmetric square", THREE, THREE), ("exterior square",), ("named", "a"), ("dual", ("named", "a")), (None,), ({},),
    # too deep, and no EXPRESSION, though too great, too
    ("dual", ("dual", ("dual", ("dual", ("dual", ("dual", ("trivial",))))))), ("times", 101, ("irreducible", (99, 99))),
)
NO_BOOKS = (
    *ANY, 0, 7, (), ((B_TWO, ()), ()), [(B_TWO, ()), (), ()], ((B_TWO, ()), [], ()), ((B_TWO, ()), (), None),
    ((B_TWO, (("a", None),)), (), ()), ((B_TWO, (("A", ()),)), (), ()), ((matrices.SNOW, ()), (), ()),
    ((small.five_rows()[0], ()), (), ()), ((B_TWO, (("a", (((0, 0), 1001),)),)), (), ()),
    ((B_TWO, ()), ((B_TWO,),), ()), ((B_TWO, ()), (), ((B_TWO, ()),) * 21), (((1,), ()), (), ()),
)
STATE = (B_TWO, (("a", (((0, 1), 2),)),))
WRONG = {
    "matrix": (
        *[(value, errors.InvalidMatrix, value) for value in NO_MATRICES],
        (matrices.SNOW, errors.NotFinite, None), (matrices.WILD, errors.NotFinite, None),
        (small.FIVE_NOT_FINITE, errors.NotFinite, None), (matrices.AFFINE[-1], errors.NotFinite, None),
        *[(matrix, errors.TooMany, len(matrix)) for matrix in small.five_rows()],
    ),
    "weight": [(value, errors.InvalidWeight, value) for value in NO_WEIGHTS],
    "dominant": [(value, errors.InvalidWeight, value) for value in (*NO_WEIGHTS, *NOT_DOMINANT)],
    "highest": (
        *[(value, errors.InvalidWeight, value) for value in (*NO_WEIGHTS, *NOT_DOMINANT)],
        ((9, 9), errors.TooMany, 10 * 10 * 30 * 20 // 6), ((0, 17), errors.TooMany, 18 * 20 * 19 // 6),
        ((HUGE, 0), errors.TooMany, GREAT),
    ),
    "total": (
        *[(value, errors.InvalidSum, value) for value in NO_SUMS],
        ((((0, 0), 1001),), errors.TooMany, 1001), ((((0, 1), -250), ((1, 0), 1)), errors.TooMany, 1005),
        ((((9, 9), -1),), errors.TooMany, 10000), ((((0, 0), -HUGE),), errors.TooMany, HUGE),
    ),
    "table": (
        *[(value, errors.InvalidTable, value) for value in NO_TABLES],
        ((((0, -5), -1001),), errors.TooMany, 1001), ((((0, 1), -999), ((1, 0), 2)), errors.TooMany, 1001),
        ((((0, 0), HUGE),), errors.TooMany, HUGE),
    ),
    "node": [(value, errors.InvalidNode, value) for value in (*ANY, -1, 2, 3, HUGE, "0", (0,), [0])],
    "nodes": [(value, errors.InvalidNodes, value) for value in (
        *ANY, 0, 7, (), [0], (2,), (-1,), (0, 2), (1, 0), (0, 0), (1, 1), (True,), (False, 1), (0, True), ("0",),
        (None,), ((0,),), (0, [1]), "01", {0: 1}, (HUGE,), (0, 1, 2), (0, 1, 1))],
    "path": [(value, errors.InvalidPath, value) for value in NO_PATHS],
    "adams": [(value, errors.InvalidCount, value) for value in (*ANY, 0, -1, 21, HUGE, "1", (1,), [1])],
    "power": [(value, errors.InvalidCount, value) for value in (*ANY, -1, 7, HUGE, "1", (1,), [1])],
    "word": [(value, errors.InvalidWord, value) for value in (
        *[value for value in ANY], 0, 7, (0,) * 301, [0, 1], (2,), (0, -1), (0, True), (False,), ("0",), (None,),
        ((0,),), (0, HUGE), (0, [1]), "01", {0: 1})],
    "value": (),
    "any matrix": [(value, errors.InvalidMatrix, value) for value in NO_MATRICES],
    "form": [(value, errors.InvalidExpression, value) for value in NO_EXPRESSIONS],
    "expression": (
        *[(value, errors.InvalidExpression, value) for value in NO_EXPRESSIONS],
        (("irreducible", (9, 9)), errors.TooMany, 10000),
        (("times", 0, ("irreducible", (9, 9))), errors.TooMany, 10000),
        (("less", ("irreducible", (0, 13)), ("times", 45, ("adjoint",))), errors.TooMany, 14 * 15 * 16 // 6 + 450),
        (("symmetric square", ("irreducible", (HUGE, 0))), errors.TooMany, GREAT * (GREAT + 1) // 2),
    ),
    "text": [(value, errors.BadText, None) for value in (
        *[value for value in ANY if not isinstance(value, str)], 0, 7, (), b"trivial", ("trivial",), ["trivial"])],
    "book": [(value, errors.InvalidBook, value) for value in NO_BOOKS],
    "deed": [(value, errors.InvalidDeed, value) for value in (
        *ANY, 0, 7, (), ("forget", "b"), ["forget", "a"], ("forget", ["a"]), ("forget",), ("restrict", (2,)),
        ("restrict", ()), ("restrict", [0]), ("define", "b", ("named", "b")), ("define", "b", None),
        ("define", "let", ("trivial",)), ("define", "b", ("irreducible", (9, 9))), ("undo",))],
    "lines": [(value, errors.InvalidLines, None) for value in (
        *ANY[:-1], 0, 7, ["show"], ("show",) * 201, (None,) * 201, "show")] + [(DEEP, errors.InvalidLines, 0)],
}
RIGHT = {
    "matrix": B_TWO, "weight": (2, -3), "dominant": (30, 40), "highest": (1, 1), "total": (((0, 0), -3), ((0, 1), 2)),
    "table": (((0, 0), 5),), "node": 1, "nodes": (1,), "path": (((1, -2), (1, 2)), ((-1, 2), (1, 2))), "adams": 3,
    "power": 2, "word": (0, 1, 1), "value": None, "any matrix": matrices.SNOW, "form": ("irreducible", (9, 9)),
    "expression": ("sum", THREE, ("times", 2, ("adjoint",))), "text": "trivial", "list": "let a = trivial;",
    "picture": '<svg xmlns="http://www.w3.org/2000/svg" viewBox="-300 -300 600 600">\n</svg>',
    "book": (STATE, (STATE, (B_TWO, ())), ((B_TWO, ()), STATE)), "deed": ("define", "b", ("named", "a")),
    "lines": ("show",),
}
WRONG["list"] = WRONG["picture"] = WRONG["text"]


class Refusals:
    """Tests of the functions of a stage: FUNCTIONS has triples of a module, a function and its kinds of arguments."""

    FUNCTIONS = ()

    def refused(self, function, arguments, error, given):
        for call in (lambda: function(*arguments.values()), lambda: function(**dict(reversed(arguments.items())))):
            with self.assertRaises(error) as caught:
                call()
            self.assertIs(type(caught.exception), error)
            # no error has more than one attribute, some have none
            for told in vars(caught.exception).values():
                if error is errors.TooMany:
                    self.assertEqual(told, given)
                else:
                    self.assertIs(told, given)

    def test_parameters_and_places(self):
        for module, function, kinds in self.FUNCTIONS:
            self.assertEqual(list(signature(function).parameters), list(kinds))
            self.assertEqual(function.__module__, module.__name__)
            self.assertIs(getattr(module, function.__name__), function)

    def test_by_name_as_by_position_and_again(self):
        for _, function, kinds in self.FUNCTIONS:
            arguments = {name: RIGHT[kind] for name, kind in kinds.items()}
            result = function(*arguments.values())
            self.assertEqual(function(**dict(reversed(arguments.items()))), result)
            self.assertEqual(function(*arguments.values()), result)

    def test_each_wrong_argument(self):
        for _, function, kinds in self.FUNCTIONS:
            for name, kind in kinds.items():
                for wrong, error, given in WRONG[kind]:
                    with self.subTest(function=function.__name__, name=name, wrong=wrong):
                        arguments = {each: RIGHT[other] for each, other in kinds.items()}
                        arguments[name] = wrong
                        self.refused(function, arguments, error, given)

    def test_the_first_wrong_argument_of_several(self):
        for _, function, kinds in self.FUNCTIONS:
            for first, behind in combinations(kinds, 2):
                # of each error one, so that a later argument's first error stands behind an earlier one's last error
                for wrong, error, given in {error: case for case in WRONG[kinds[first]] for error in case[1:2]}.values():
                    for other in (WRONG[kinds[behind]][:1] + WRONG[kinds[behind]][-1:]):
                        with self.subTest(function=function.__name__, wrong=wrong, other=other[0]):
                            arguments = {each: RIGHT[kind] for each, kind in kinds.items()}
                            arguments[first], arguments[behind] = wrong, other[0]
                            self.refused(function, arguments, error, given)

    def test_no_argument_is_changed(self):
        for _, function, kinds in self.FUNCTIONS:
            for name, kind in kinds.items():
                if WRONG[kind]:
                    arguments = {each: RIGHT[other] for each, other in kinds.items()}
                    arguments[name] = [[1, 0], [0, 1]]
                    with self.assertRaises(errors.WeylError):
                        function(*arguments.values())
                    self.assertEqual(arguments[name], [[1, 0], [0, 1]])
