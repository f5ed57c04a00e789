import unittest

from tests import matrices, refusals, small
from tests.matrices import HUGE
from tests.small import A_ONE, A_PAIR, A_TWO, B_TWO, FOUR_ONES, G_TWO
from weylweights.characters import dimension, table_of
from weylweights.errors import InvalidTable, NotAlike, TooMany
from weylweights.tables import is_alike, is_sum, is_table, lacking, sum_of, table_of_sum, table_plus, table_times
from weylweights.weights import orbit

EVERY = small.UP_TO_THREE + small.FOUR
NO_TABLES = (
    None, True, False, 0, 1, "", "x", b"", [], {}, object(), len, {(1, 0): 1}, [((1, 0), 1)], (1,), (None,), ((),),
    ("ab",), (((1, 0),),), (((1, 0), 1, 1),), ([(1, 0), 1],), (((1, 0), 0),), (((1, 0), True),), (((1, 0), False),),
    (((1, 0), None),), (((1, 0), "1"),), (((1, 0), (1,)),), (([1, 0], 1),), (((1,), 1),), (((1, 0, 0), 1),),
    (((True, 0), 1),), (((1, None), 1),), (("10", 1),), ((1, (1, 0)),), (((1, 0), 1), ((0, 1), 1)),
    (((0, 1), 1), ((0, 1), 1)), (((0, 1), 1), ((0, 1), 2)), (((0, 1), 1), ((1, 0), 1), ((1, 0), 2)),
    (((0, 1), 1), ((1, 0), 1), ((0, 2), 1)), (((0, 1), 1), None), (((0, 1), 1), ((1, 0), 0)), ((0, 1), 1),
    (((0, 1), 1), [(1, 0), 1]), ((((0, 1), 1),),), ((((0, 1),), 1),),
)


def some_sums(matrix):
    """Sums with coefficients of both signs."""
    weights = sorted(small.highest_weights(matrix, {1: 9, 2: 60, 3: 60, 4: 60}[len(matrix)])[:9])
    return [
        (), ((small.zero(matrix), -3),), ((weights[-1], 1),),
        tuple((weight, 1) for weight in weights),
        tuple((weight, (-1) ** at * (1 + at % 3)) for at, weight in enumerate(weights)),
        tuple((weight, at - 9) for at, weight in enumerate(weights[1::2])),
    ]


def size(matrix, total):
    return sum(abs(number) * small.dimension(matrix, weight) for weight, number in total)


def table_by_irreducibles(matrix, total):
    return small.pairs(small.plus(*[(number, table_of(matrix, weight)) for weight, number in total]))


class Examples(unittest.TestCase):
    def test_sums(self):
        self.assertEqual(
            [sum_of(A_TWO, (((-1, 0), 1), ((-1, 1), 1), ((0, -1), 1), ((0, 1), 1), ((1, -1), 1), ((1, 0), 1))),
             sum_of(A_ONE, (((-2,), 1), ((2,), 1))), lacking(A_ONE, (((-2,), 1), ((2,), 1))), sum_of(B_TWO, ())],
            [(((0, 1), 1), ((1, 0), 1)), (((0,), -1), ((2,), 1)), (0,), ()])

    def test_tables(self):
        self.assertEqual(
            [is_alike(A_ONE, (((1,), 1),)), is_table(A_ONE, (((1,), 0),)), is_sum(A_ONE, (((-1,), 1),)),
             table_of_sum(A_ONE, (((0,), -1), ((2,), 1))),
             table_times(A_ONE, (((-1,), 1), ((1,), 1)), (((-1,), 1), ((1,), 1))),
             table_plus(A_ONE, (((1,), 1),), (((1,), -1),))],
            [False, False, False, (((-2,), 1), ((2,), 1)), (((-2,), 1), ((0,), 2), ((2,), 1)), ()])

    def test_not_alike(self):
        with self.assertRaises(NotAlike) as caught:
            sum_of(A_ONE, (((1,), 1),))
        self.assertEqual(caught.exception.given, (1,))


class Kinds(unittest.TestCase):
    def test_what_is_no_table_is_no_sum(self):
        for value in (*NO_TABLES, *refusals.NO_TABLES):
            with self.subTest(value=value):
                self.assertIs(is_table(A_TWO, value), False)
                self.assertIs(is_sum(A_TWO, value), False)

    def test_tables(self):
        for value in ((), (((0, 0), 1),), (((1, -2), -5),), (((-1, 0), 1), ((0, -7), 2), ((0, 0), -3)),
                      (((-HUGE, 0), HUGE), ((HUGE, -HUGE), -HUGE)), (((0, 0), 10 ** 9),)):
            self.assertIs(is_table(A_TWO, value), True)
            self.assertIs(is_table(value=value, matrix=A_TWO), True)

    def test_sums(self):
        for value in ((), (((0, 0), 1),), (((1, 2), -5),), (((0, 7), 2), ((1, 0), -3)), (((0, HUGE), HUGE),)):
            self.assertIs(is_sum(A_TWO, value), True)
        for value in ((((0, -1), 1),), (((-1, 0), 1), ((0, 0), 1)), (((0, 0), 1), ((1, -1), 1))):
            self.assertIs(is_table(A_TWO, value), True)
            self.assertIs(is_sum(A_TWO, value), False)


class TablesOfSums(unittest.TestCase):
    def test_there_and_back(self):
        for matrix in EVERY:
            for total in some_sums(matrix):
                if size(matrix, total) <= 1000:
                    table = table_of_sum(matrix, total)
                    self.assertEqual(table, table_by_irreducibles(matrix, total))
                    self.assertIs(is_alike(matrix, table), True)
                    self.assertEqual(sum_of(matrix, table), total)
                    self.assertEqual(lacking(matrix, table),
                                     next((weight for weight, number in total if number < 0), None))

    def test_orbits_lead_to_sums_and_back(self):
        for matrix in EVERY:
            for weight in small.highest_weights(matrix, 40)[:7]:
                counts = {place: -2 for place in small.orbit(matrix, weight)}
                counts[small.zero(matrix)] = 3
                total = sum_of(matrix, small.pairs(counts))
                self.assertIs(is_sum(matrix, total), True)
                self.assertEqual(table_by_irreducibles(matrix, total), small.pairs(counts))

    def test_by_hand(self):
        self.assertEqual(table_of_sum(A_ONE, (((0,), -1), ((2,), 1))), (((-2,), 1), ((2,), 1)))
        self.assertEqual(table_of_sum(A_TWO, ()), ())
        self.assertEqual(table_of_sum(A_PAIR, (((0, 0), -1),)), (((0, 0), -1),))
        self.assertEqual(sum_of(A_PAIR, (((0, 0), 5),)), (((0, 0), 5),))
        self.assertEqual(sum_of(G_TWO, table_of(G_TWO, (1, 1))), (((1, 1), 1),))
        self.assertIsNone(lacking(A_TWO, ()))
        self.assertEqual(lacking(A_ONE, (((-4,), -1), ((-3,), 1), ((3,), 1), ((4,), -1))), (1,))

    def test_a_sum_of_many_small_ones(self):
        total = tuple(((k,), 1) for k in range(44))
        self.assertEqual(sum_of(A_ONE, table_of_sum(A_ONE, total)), total)
        total = (((0,), -500), ((499,), 1))
        self.assertEqual(sum_of(A_ONE, table_of_sum(A_ONE, total)), total)


class Alike(unittest.TestCase):
    def test_by_orbits(self):
        for matrix in EVERY:
            for weight in small.highest_weights(matrix, 30)[1:5]:
                places = sorted(small.orbit(matrix, weight))
                table = tuple((place, 4) for place in places)
                self.assertIs(is_alike(matrix, table), True)
                for at in (0, len(places) // 2, -1):
                    changed = [(place, 5 if place == places[at] else 4) for place in places]
                    self.unlike(matrix, tuple(changed), places[0])
                    left = tuple((place, 4) for place in places if place != places[at])
                    self.unlike(matrix, left, left[0][0])

    def unlike(self, matrix, table, first):
        self.assertIs(is_alike(matrix, table), False)
        for function in (sum_of, lacking):
            with self.assertRaises(NotAlike) as caught:
                function(matrix, table)
            self.assertIs(type(caught.exception), NotAlike)
            self.assertEqual(caught.exception.given, first)

    def test_the_first_weight_of_an_orbit_that_is_unlike(self):
        # -2, 0 and 2 are alike; of 1 and 3 the first one that is told is the first in the table
        table = (((-3,), 1), ((-2,), 7), ((-1,), 1), ((0,), 1), ((1,), 2), ((2,), 7), ((3,), 1))
        self.unlike(A_ONE, table, (-1,))
        self.unlike(A_ONE, table[2:5], (-1,))
        self.unlike(A_ONE, (((-2,), 7), ((2,), 7), ((3,), 1)), (3,))
        # the second one is the same as its neighbour, the third one in the orbit is not there
        self.unlike(A_TWO, (((0, 0), 1), ((0, 1), 2), ((1, -1), 2)), (0, 1))
        whole = {place: 1 for place in small.orbit(A_TWO, (2, 3))}
        whole[max(whole)] = 2
        self.unlike(A_TWO, small.pairs(whole), min(whole))
        self.unlike(A_TWO, (((0, 0), 1), ((HUGE, -HUGE), 1)), (HUGE, -HUGE))

    def test_many_digits(self):
        for matrix in (A_TWO, B_TWO, G_TWO, *small.SOME_OF_FOUR[:2]):
            weight = tuple(HUGE + k for k in range(len(matrix)))
            table = tuple((place, -2) for place in orbit(matrix, weight))
            self.assertIs(is_alike(matrix, table), True)
            self.assertIs(is_alike(matrix, table[1:]), False)

    def test_the_empty_table(self):
        for matrix in EVERY:
            self.assertIs(is_alike(matrix, ()), True)
            self.assertEqual(sum_of(matrix, ()), ())
            self.assertEqual(table_of_sum(matrix, ()), ())
            self.assertEqual(table_plus(matrix, (), ()), ())
            self.assertEqual(table_times(matrix, (), ()), ())


class PlusAndTimes(unittest.TestCase):
    def test_as_polynomials(self):
        for matrix in EVERY[::2]:
            tables = [table_by_irreducibles(matrix, total) for total in some_sums(matrix)]
            tables = [table for table in tables if sum(abs(count) for _, count in table) <= 300]
            some = small.unit(matrix, 0)
            tables.append(((some, -2), (small.added(some, small.rho(matrix)), 5)))
            for table in tables:
                for other in tables:
                    self.assertEqual(table_plus(matrix, table, other), small.pairs(small.plus((1, table), (1, other))))
                    self.assertEqual(table_times(matrix, table, other), small.pairs(small.times(table, other)))

    def test_by_hand(self):
        self.assertEqual(table_plus(A_ONE, (((0,), 1), ((1,), 2)), (((-1,), 4), ((0,), -1))), (((-1,), 4), ((1,), 2)))
        self.assertEqual(table_times(A_ONE, (((0,), 1), ((1,), 1)), (((0,), 1), ((1,), -1))), (((0,), 1), ((2,), -1)))
        self.assertEqual(table_times(A_ONE, (((0,), 1),), ()), ())
        self.assertEqual(table_plus(A_TWO, (((HUGE, 0), 1),), (((HUGE, -1), 1),)), (((HUGE, -1), 1), ((HUGE, 0), 1)))
        self.assertEqual(table_times(A_TWO, (((HUGE, 0), 2),), (((HUGE, -1), 3),)), (((2 * HUGE, -1), 6),))


class Limits(unittest.TestCase):
    def many(self, function, *arguments):
        with self.assertRaises(TooMany) as caught:
            function(*arguments)
        return caught.exception.given

    def test_sizes_of_tables(self):
        full = (((-1,), -500), ((1,), -500))
        over = (((-1,), -500), ((1,), -501))
        for function in (is_alike, sum_of, lacking):
            function(A_ONE, full)
            self.assertEqual(self.many(function, A_ONE, over), 1001)
            self.assertEqual(self.many(function, A_ONE, (((0,), HUGE),)), HUGE)
        self.assertEqual(table_plus(A_ONE, full, full), (((-1,), -1000), ((1,), -1000)))
        self.assertEqual(self.many(table_plus, A_ONE, over, full), 1001)
        self.assertEqual(self.many(table_plus, A_ONE, full, (((0,), -1002),)), 1002)
        self.assertEqual(self.many(table_times, A_ONE, over, full), 1001)
        self.assertEqual(self.many(table_times, A_ONE, (((0,), 1),), (((0,), -1002),)), 1002)
        wide = tuple(((k,), 1) for k in range(1000))
        self.assertIs(is_alike(A_ONE, wide), False)
        self.assertEqual(len(table_plus(A_ONE, wide, tuple(((-k,), 1) for k in range(1000, 0, -1)))), 2000)
        for value in (over, full, ((((0,), HUGE)),)):
            self.assertIs(is_table(A_ONE, value), True)

    def test_sizes_of_sums(self):
        self.assertEqual(len(table_of_sum(A_ONE, (((999,), 1),))), 1000)
        self.assertEqual(table_of_sum(A_ONE, (((0,), -998), ((1,), -1))), (((-1,), -1), ((0,), -998), ((1,), -1)))
        for total, number in (((((0,), -999), ((1,), -1)), 1001), ((((1000,), 1),), 1001), ((((1,), -501),), 1002),
                              ((((HUGE,), 2),), 2 * HUGE + 2)):
            self.assertIs(is_sum(A_ONE, total), True)
            self.assertEqual(self.many(table_of_sum, A_ONE, total), number)
        self.assertEqual(self.many(table_of_sum, A_TWO, (((0, 0), 1), ((9, 9), 1))), 1001)

    def test_a_product_of_sizes_above_100000(self):
        for count, other in ((100, 1000), (1000, -100), (317, 315), (-1000, 100)):
            self.assertEqual(table_times(A_ONE, (((1,), count),), (((2,), other),)), (((3,), count * other),))
        for count, other in ((101, 1000), (1000, -101), (317, 316), (-1000, -1000)):
            self.assertEqual(self.many(table_times, A_ONE, (((1,), count),), (((2,), other),)), abs(count * other))
        # both arguments are looked at first
        with self.assertRaises(InvalidTable):
            table_times(A_ONE, (((0,), 1000),), (((0,), 0),))
        self.assertEqual(self.many(table_times, A_ONE, (((0,), 1000),), (((0,), 1001),)), 1001)

    def test_dimensions_above_6000(self):
        for function in (sum_of, lacking):
            function(A_ONE, (((-5999,), 1), ((5999,), 1)))
            self.assertEqual(self.many(function, A_ONE, (((-6000,), 1), ((6000,), 1))), 6001)
            self.assertEqual(self.many(function, A_ONE, (((-7000,), 1), ((-6000,), 1), ((6000,), 1), ((7000,), 1))),
                             7001)
            self.assertEqual(self.many(function, A_ONE, (((-HUGE,), 1), ((HUGE,), 1))), HUGE + 1)
        self.assertEqual(sum_of(A_ONE, (((-5999,), 1), ((5999,), 1))), (((5997,), -1), ((5999,), 1)))
        for matrix, weight in ((A_TWO, (16, 20)), (A_TWO, (16, 21)), (FOUR_ONES, (5, 9, 9, 9)), (FOUR_ONES, (5, 9, 9, 10)),
                               (matrices.of_type("F", 4), (0, 0, 1, 1)), (matrices.of_type("F", 4), (0, 1, 0, 1))):
            table = tuple((place, 1) for place in orbit(matrix, weight))
            number = dimension(matrix, weight)
            if number > 6000:
                self.assertEqual(self.many(sum_of, matrix, table), number)
            else:
                self.assertEqual(dict(sum_of(matrix, table))[weight], 1)
        # the dominant weight itself may be lower than others that are greater
        table = small.pairs({place: 1 for weight in ((20, 20), (41, 0)) for place in orbit(A_TWO, weight)})
        self.assertEqual(self.many(sum_of, A_TWO, table), max(dimension(A_TWO, (20, 20)), dimension(A_TWO, (41, 0))))

    def test_not_alike_comes_ahead_of_too_great(self):
        for function in (sum_of, lacking):
            with self.assertRaises(NotAlike) as caught:
                function(A_ONE, (((-7000,), 1), ((0,), 1), ((3,), 2), ((7000,), 1)))
            self.assertEqual(caught.exception.given, (3,))


if __name__ == "__main__":
    unittest.main()
