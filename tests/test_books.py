import unittest
from itertools import combinations

from tests import small, trees
from tests.matrices import HUGE, SNOW
from tests.refusals import ANY, DEEP
from tests.small import A_ONE, A_TWO, B_TWO
from tests.trees import ADJOINT, TRIVIAL
from weylweights.books import changed, does_fit, done_again, fresh_book, is_book, undone
from weylweights.characters import dimension
from weylweights.errors import InvalidBook, InvalidDeed, NothingToRedo, NothingToUndo
from weylweights.expressions import decomposition, size_of
from weylweights.levis import levi_matrix, restricted

THREE = ("irreducible", (1, 0))
BACK = ("dual", THREE)
ONE = (((0, 0), 1),)
NAMES = [f"n{k:02d}" for k in range(30)]


def with_entries(matrix, *entries):
    return (matrix, tuple(entries)), (), ()


def done(book, *deeds):
    for deed in deeds:
        book = changed(book, deed)
    return book


def full(many):
    return with_entries(A_TWO, *[(name, ONE) for name in NAMES[:many]])


class Examples(unittest.TestCase):
    def test_of_the_document(self):
        book = changed(fresh_book(A_TWO), ("define", "ad", ("product", THREE, BACK)))
        book = changed(book, ("restrict", (0,)))
        self.assertEqual([book[0], undone(book)[0] == (A_TWO, (('ad', (((0, 0), 1), ((1, 1), 1))),)),
                          done_again(undone(book)) == book, does_fit(book, ("forget", "x")),
                          does_fit(book, ("define", "x", ("named", "ad"))), is_book(book)],
                         [(((2,),), (('ad', (((0,), 2), ((1,), 2), ((2,), 1))),)), True, True, False, True, True])


class Books(unittest.TestCase):
    def test_books(self):
        state = (A_TWO, (("a", ()), ("b1", ONE)))
        for book in (fresh_book(A_ONE), full(20), (state, (state,) * 20, (state,) * 20),
                     (state, (), ((A_ONE, ()), state)), with_entries(A_ONE, ("x", (((999,), -1),))),
                     with_entries(A_ONE, ("abcdefghijkl", ())),
                     with_entries(B_TWO, ("x", (((0, 0), -500), ((0, 1), 125))))):
            self.assertIs(is_book(book), True)
        for matrix in small.ALL_SMALL:
            self.assertEqual(fresh_book(matrix), ((matrix, ()), (), ()))
            self.assertIs(is_book(fresh_book(matrix)), True)

    def test_wrong_ones(self):
        state = (A_TWO, ())
        wrong_states = [*ANY, 0, (), (A_TWO,), [A_TWO, ()], (A_TWO, (), ()), (A_TWO, []), (A_TWO, None), (A_TWO, {}),
                        (SNOW, ()), (((1,),), ()), (small.five_rows()[0], ()), (small.FIVE_NOT_FINITE, ()), ([[2]], ()),
                        (((True,),), ()), (DEEP, ()), (A_TWO, (1,)), (A_TWO, (("a",),)), (A_TWO, ("a", ONE)),
                        (A_TWO, (["a", ONE],)), (A_TWO, (("a", ONE, ONE),)), (A_TWO, ((b"a", ONE),)),
                        (A_TWO, ((1, ONE),)), (A_TWO, (("", ONE),)), (A_TWO, (("A", ONE),)), (A_TWO, (("1a", ONE),)),
                        (A_TWO, (("a b", ONE),)), (A_TWO, (("abcdefghijklm", ONE),)), (A_TWO, (("let", ONE),)),
                        (A_TWO, (("trivial", ONE),)), (A_TWO, (("adjoint", ONE),)), (A_TWO, (("dual", ONE),)),
                        (A_TWO, (("sym", ONE),)), (A_TWO, (("ext", ONE),)), (A_TWO, (("a_", ONE),)),
                        (A_TWO, (("\u00e4", ONE),)), (A_TWO, (("a\u0661", ONE),)), (A_TWO, (("a\n", ONE),)),
                        (A_TWO, ((("a",), ONE),)), (A_TWO, (("a", None),)), (A_TWO, (("a", (((0,), 1),)),)),
                        (A_TWO, (("a", (((0, 0), 0),)),)), (A_TWO, (("a", [((0, 0), 1)]),)),
                        (A_TWO, (("a", (((0, -1), 1),)),)), (A_TWO, (("a", (((0, 0), True),)),)),
                        (A_TWO, (("a", (((0, 0), 1001),)),)), (A_TWO, (("a", (((0, 0), -1001),)),)),
                        (A_TWO, (("a", (((9, 9), 1), ((9, 10), 1))),)), (A_TWO, (("a", (((HUGE, 0), 1),)),)),
                        (A_TWO, (("b", ONE), ("a", ONE))), (A_TWO, (("a", ONE), ("a", ONE))),
                        (A_TWO, (("a", ()), ("a", ONE))), (A_TWO, tuple((name, ONE) for name in NAMES[:21])),
                        (A_TWO, (("a", ONE), ("b",))), (A_TWO, ([], ("b", ONE))),]
        books = [*ANY, 0, 7, (), (state,), (state, ()), (state, (), (), ()), [state, (), ()], (state, [], ()),
                 (state, (), []), (state, None, ()), (state, (), None), (state, state, ()), (state, (), state),
                 (state, (state,) * 21, ()), (state, (), (state,) * 21), (state, {}, ()), (state, "", ())]
        for wrong in wrong_states:
            books += [(wrong, (), ()), (state, (wrong,), ()), (state, (state, wrong), (state,)),
                      (state, (), (state, wrong))]
        for book in books:
            with self.subTest(book=book):
                self.assertIs(is_book(book), False)
                for call in (lambda: does_fit(book, ("forget", "x")), lambda: changed(book, ("forget", "x")),
                             lambda: undone(book), lambda: done_again(book), lambda: changed(book, None)):
                    with self.assertRaises(InvalidBook) as caught:
                        call()
                    self.assertIs(caught.exception.given, book)


class Deeds(unittest.TestCase):
    def fits(self, book, deed, truth):
        with self.subTest(deed=deed):
            self.assertIs(does_fit(book, deed), truth)
            if truth:
                self.assertIs(is_book(changed(book, deed)), True)
            else:
                with self.assertRaises(InvalidDeed) as caught:
                    changed(book, deed)
                self.assertIs(caught.exception.given, deed)

    def test_what_is_no_deed(self):
        book = with_entries(A_TWO, ("a", ONE))
        for deed in (*ANY, 0, 7, (), ("define",), ("define", "b"), ("define", "b", THREE, 1), ["define", "b", THREE],
                     ("Define", "b", THREE), ("define", "B", THREE), ("define", "", THREE), ("define", 1, THREE),
                     ("define", "let", THREE), ("define", "ext", THREE), ("define", "abcdefghijklm", THREE),
                     ("define", "b c", THREE), ("define", ("b",), THREE), ("define", None, THREE),
                     ("define", ["b"], THREE), ("define", {}, THREE), ("define", "b", None), ("define", "b", "trivial"),
                     ("define", "b", ONE), ("define", "b", ("irreducible", (1,))), ("define", "b", ("x",)),
                     ("define", "b", ("named",)), ("define", "b", ("named", "b")), ("define", "b", ("named", "a", 1)),
                     ("define", "b", ("named", None)), ("define", "b", ("named", ["a"])),
                     ("define", "b", ("named", ("a",))), ("define", "b", ("sum", THREE, ("named", "c"))),
                     ("define", "b", ["named", "a"]), ("forget",), ("forget", "b"), ("forget", "a", "a"),
                     ("forget", None), ("forget", 0), ("forget", ["a"]), ("forget", ""), ("forget", ("a",)),
                     ("forget", {}), ("forget", "A"), ["forget", "a"], ("restrict",), ("restrict", 0), ("restrict", ()),
                     ("restrict", [0]), ("restrict", (2,)), ("restrict", (-1,)), ("restrict", (1, 0)),
                     ("restrict", (0, 0)), ("restrict", "0"), ("restrict", (True,)), ("restrict", (False, 1)),
                     ("restrict", (0,), 1), ("restrict", 0, 1), ("restrict", (0, None)), ("restrict", ((0,),)),
                     ("restrict", None), ("undo",), ("type", "A2"), (None, "a"), (("forget",), "a"), (b"forget", "a")):
            self.fits(book, deed, False)

    def test_deeds_that_fit(self):
        book = with_entries(A_TWO, ("a", ONE))
        for deed in (("define", "b", THREE), ("define", "a", THREE), ("define", "abcdefghijk9", ("named", "a")),
                     ("forget", "a"), ("define", "a", ("sum", ("named", "a"), ("named", "a"))), ("restrict", (0,)),
                     ("restrict", (1,)), ("restrict", (0, 1)), ("define", "v", trees.nested(6, ("named", "a"))),
                     ("define", "lets", ("times", 0, THREE))):
            self.fits(book, deed, True)
        for tree in trees.some(A_TWO)[::3]:
            self.fits(book, ("define", "b", tree), True)
        for name in ("a", "z9", "abcdefghijkl"):
            for tree in (("named", name), ("sum", ("named", name), TRIVIAL),
                         ("dual", ("exterior square", ("named", name)))):
                self.fits(with_entries(A_TWO, (name, ONE)), ("define", "q", tree), True)
                self.fits(with_entries(A_TWO), ("define", "q", tree), False)

    def test_depths_and_sizes(self):
        book = with_entries(A_TWO, ("a", ONE), ("big", (((0, 0), -400), ((9, 0), 2))), ("none", ()))
        self.fits(book, ("define", "b", trees.nested(6, ("named", "a"))), True)
        self.fits(book, ("define", "b", trees.nested(7, ("named", "a"))), False)
        self.fits(book, ("define", "b", trees.nested(7)), False)
        # big is of the size 510
        for tree, truth in (
                (("named", "big"), True), (("sum", ("named", "big"), ("named", "big")), False),
                (("times", 2, ("named", "big")), False), (("times", 0, ("times", 2, ("named", "big"))), False),
                (("sum", ("named", "big"), ("irreducible", (9, 7))), False),
                (("sum", ("named", "big"), ("times", 70, ADJOINT)), False),
                (("sum", ("named", "big"), ("times", 61, ADJOINT)), True),
                (("product", ("named", "big"), ("named", "a")), True), (("product", ("named", "big"), THREE), False),
                (("symmetric square", ("named", "big")), False),
                (("times", 100, ("times", 10, ("named", "none"))), True),
                (("times", 100, ("times", 11, ("named", "none"))), False),
                (("times", 100, ("times", 10, TRIVIAL)), True)):
            with self.subTest(tree=tree):
                self.assertIs(does_fit(book, ("define", "b", tree)), truth)
        # the size of nothing is taken as 1
        for number, truth in ((10, True), (11, False)):
            tree = ("times", 100, ("sum", ("times", number - 1, ("named", "none")), ("named", "none")))
            self.fits(book, ("define", "b", tree), truth)
        book = with_entries(A_ONE, ("none", ()), ("x", (((0,), 500), ((499,), -1))))
        for tree, truth in ((("named", "x"), True), (("sum", ("named", "x"), ("named", "none")), False),
                            (("product", ("named", "x"), ("named", "none")), True),
                            (("product", ("named", "none"), ("irreducible", (999,))), True),
                            (("product", ("named", "none"), ("irreducible", (1000,))), False)):
            self.fits(book, ("define", "b", tree), truth)

    def test_20_entries_and_21(self):
        self.fits(full(19), ("define", "z", THREE), True)
        self.fits(full(20), ("define", "z", THREE), False)
        for name in NAMES[:20]:
            self.fits(full(20), ("define", name, THREE), True)
            self.fits(full(20), ("forget", name), True)
        self.fits(full(20), ("restrict", (1,)), True)
        self.fits(changed(full(20), ("forget", "n03")), ("define", "z", THREE), True)

    def test_define(self):
        for matrix in small.SOME:
            book = fresh_book(matrix)
            for name, tree in zip(NAMES[::-1], trees.some(matrix, 300)[::40]):
                before, book = book, changed(book, ("define", name, tree))
                entries = dict(before[0][1]) | {name: decomposition(matrix, tree)}
                self.assertEqual(book, ((matrix, tuple(sorted(entries.items()))), before[1] + (before[0],), ()))
        book = done(fresh_book(A_ONE), ("define", "b", ("irreducible", (1,))), ("define", "a", ("times", 0, TRIVIAL)),
                    ("define", "b", ("product", ("named", "b"), ("named", "b"))))
        self.assertEqual(book[0], (A_ONE, (("a", ()), ("b", (((0,), 1), ((2,), 1))))))

    def test_named_ones_stand_for_their_sums(self):
        for matrix in small.SOME:
            first, second = trees.some(matrix, 40)[-1], trees.some(matrix, 40)[-7]
            book = done(fresh_book(matrix), ("define", "x", first), ("define", "y", second))
            for tree in trees.over(("named", "x"), ("named", "y")):
                plain = replaced(tree, {"x": first, "y": second})
                if size_of(matrix, plain) <= 1000 and trees.depth(plain) <= 6:
                    self.assertEqual(dict(changed(book, ("define", "z", tree))[0][1])["z"],
                                     decomposition(matrix, plain))

    def test_forget(self):
        book = done(full(3), ("forget", "n01"))
        self.assertEqual(book[0], (A_TWO, (("n00", ONE), ("n02", ONE))))
        self.assertEqual(done(book, ("forget", "n00"), ("forget", "n02"))[0], (A_TWO, ()))

    def test_restrict(self):
        for matrix in small.SOME + small.SOME_OF_FOUR:
            totals = [decomposition(matrix, tree) for tree in trees.some(matrix, 60)[::50]]
            book = with_entries(matrix, *zip(NAMES, totals))
            for many in range(1, len(matrix) + 1):
                for nodes in combinations(range(len(matrix)), many):
                    self.assertEqual(changed(book, ("restrict", nodes))[0], (levi_matrix(matrix, nodes), tuple(
                        (name, restricted(matrix, nodes, total)) for name, total in zip(NAMES, totals))))

    def test_restriction_goes_along(self):
        for matrix in small.SOME_OF_FOUR + small.SOME[-4:]:
            plain = [tree for tree in trees.some(matrix, 80)[::30]]
            book = done(fresh_book(matrix), *[("define", name, tree) for name, tree in zip(NAMES, plain)])
            for nodes in combinations(range(len(matrix)), len(matrix) - 1):
                smaller = changed(book, ("restrict", nodes))
                for fewer in combinations(range(len(nodes)), len(nodes) - 1):
                    at_once = changed(book, ("restrict", tuple(nodes[node] for node in fewer)))
                    self.assertEqual(changed(smaller, ("restrict", fewer))[0], at_once[0])
                # what is made of restricted ones is the restricted one
                for tree in trees.over(("named", "n00"), ("named", "n01")):
                    if does_fit(book, ("define", "z", tree)):
                        self.assertEqual(done(book, ("define", "z", tree), ("restrict", nodes))[0],
                                         done(smaller, ("define", "z", tree))[0])

    def test_sizes_stay_below_1000(self):
        book = done(fresh_book(A_TWO),
                    ("define", "x", ("less", ("times", 10, ("irreducible", (3, 3))), ("times", 35, ADJOINT))))
        book = changed(book, ("restrict", (0,)))
        self.assertIs(is_book(book), True)
        self.assertLessEqual(sum(abs(number) * dimension(A_ONE, weight) for weight, number in book[0][1][0][1]), 1000)


def replaced(tree, told):
    if tree[0] == "named":
        return told[tree[1]]
    return tuple(replaced(part,
                          told) if isinstance(part, tuple) and isinstance(part[0], str) else part for part in tree)


class Undoing(unittest.TestCase):
    def test_undone_and_done_again(self):
        deeds = [("define", "a", THREE), ("define", "b", ("product", ("named", "a"), ADJOINT)), ("forget", "a"),
                 ("restrict", (1,)), ("restrict", (0,)), ("define", "b", TRIVIAL)]
        books = [fresh_book(A_TWO)]
        for deed in deeds:
            books.append(changed(books[-1], deed))
        self.assertEqual([book[0] for book in books[:-1]], list(books[-1][1]))
        book = books[-1]
        for at in range(len(deeds) - 1, -1, -1):
            back = undone(book)
            self.assertEqual(back, (books[at][0], books[at][1], (book[0],) + book[2]))
            self.assertEqual(done_again(back), book)
            book = back
        with self.assertRaises(NothingToUndo):
            undone(book)
        for at in range(1, len(deeds) + 1):
            again = done_again(book)
            self.assertEqual(again[:2], books[at][:2])
            self.assertEqual(undone(again), book)
            book = again
        self.assertEqual(book, books[-1])
        with self.assertRaises(NothingToRedo):
            done_again(book)

    def test_a_change_makes_what_is_later_go(self):
        book = undone(done(fresh_book(A_TWO), ("define", "a", THREE), ("define", "b", THREE)))
        self.assertEqual(len(book[2]), 1)
        book = changed(book, ("define", "c", THREE))
        self.assertEqual(book[2], ())
        self.assertEqual([name for name, _ in book[0][1]], ["a", "c"])
        with self.assertRaises(NothingToRedo):
            done_again(book)

    def test_a_change_that_changes_nothing_is_one(self):
        book = done(full(1), ("define", "n00", TRIVIAL), ("restrict", (0, 1)))
        self.assertEqual(book, (full(1)[0], (full(1)[0],) * 2, ()))

    def test_20_and_21_states(self):
        book = fresh_book(A_ONE)
        states = [book[0]]
        for number in range(25):
            book = changed(book, ("define", "a", ("times", number, TRIVIAL)))
            states.append(book[0])
            self.assertEqual(book, (states[-1], tuple(states[:-1][-20:]), ()))
        for _ in range(20):
            book = undone(book)
        self.assertEqual(book, (states[5], (), tuple(states[6:])))
        with self.assertRaises(NothingToUndo):
            undone(book)
        for _ in range(20):
            book = done_again(book)
        self.assertEqual(book, (states[-1], tuple(states[5:-1]), ()))
        # what another made may have 20 earlier and 20 later ones
        earlier = tuple((A_ONE, (("a", (((k,), 1),)),)) for k in range(20))
        later = tuple((A_ONE, (("b", (((k,), 1),)),)) for k in range(20))
        now = (A_ONE, ())
        self.assertEqual(undone((now, earlier, later)), (earlier[-1], earlier[:-1], (now, *later[:-1])))
        self.assertEqual(done_again((now, earlier, later)), (later[0], (*earlier[1:], now), later[1:]))
        self.assertEqual(changed((now, earlier, later), ("restrict", (0,))), (now, (*earlier[1:], now), ()))
        self.assertEqual(undone((now, earlier[:1], later[:19])), (earlier[0], (), (now, *later[:19])))


if __name__ == "__main__":
    unittest.main()
