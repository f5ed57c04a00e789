import unittest
from itertools import combinations, combinations_with_replacement
from math import comb

from tests import matrices, small
from tests.matrices import HUGE
from tests.small import A_ONE, A_PAIR, A_TWO, B_TWO, FOUR_ONES, G_TWO
from weylweights.characters import dimension, table_of
from weylweights.errors import InvalidCount, InvalidSum, TooMany
from weylweights.products import adams, dual, exterior_power, indicator, product, symmetric_power
from weylweights.tables import sum_of, table_of_sum, table_times

EVERY = small.UP_TO_THREE + small.FOUR
SPIN, VECTOR = (((0, 1), 1),), (((1, 0), 1),)


def sums(matrix, most=60):
    """Sums with coefficients of both signs."""
    weights = sorted(small.highest_weights(matrix, most)[:7])
    found = [(), ((small.zero(matrix), -2),), ((weights[-1], 1),), ((weights[0], 1), (weights[1], -1)),
             tuple((weight, (-1) ** at * (1 + at % 2)) for at, weight in enumerate(weights)),
             tuple((weight, 1) for weight in weights[1:4])]
    return [total for total in found if size(matrix, total) <= 300]


def size(matrix, total):
    return sum(abs(number) * small.dimension(matrix, weight) for weight, number in total)


def contrary(total):
    return tuple((weight, -number) for weight, number in total)


def table(matrix, total):
    return small.plus(*[(number, table_of(matrix, weight)) for weight, number in total])


def scaled(counts, k):
    return {tuple(k * number for number in weight): count for weight, count in counts.items()}


def power_by_choices(counts, many, choose):
    """The table of a power of a representation, by taking weights."""
    weights = [weight for weight, count in sorted(counts.items()) for _ in range(count)]
    made = {}
    for choice in choose(weights, many):
        place = tuple(sum(numbers) for numbers in zip(*choice)) if choice else (0,) * len(weights[0])
        made[place] = made.get(place, 0) + 1
    return made


class Examples(unittest.TestCase):
    def test_b_two(self):
        self.assertEqual(
            [product(B_TWO, SPIN, SPIN), symmetric_power(B_TWO, SPIN, 2), exterior_power(B_TWO, SPIN, 2),
             product(B_TWO, VECTOR, SPIN), exterior_power(B_TWO, SPIN, 5)],
            [(((0, 0), 1), ((0, 2), 1), ((1, 0), 1)), (((0, 2), 1),), (((0, 0), 1), ((1, 0), 1)),
             (((0, 1), 1), ((1, 1), 1)), ()])

    def test_others(self):
        self.assertEqual(
            [product(A_TWO, (((1, 1), 1),), (((1, 1), 1),)), dual(A_TWO, (((2, 0), 3), ((2, 1), -1))),
             adams(A_ONE, (((1,), 1),), 2), adams(A_TWO, (((1, 0), 1),), 2)],
            [(((0, 0), 1), ((0, 3), 1), ((1, 1), 2), ((2, 2), 1), ((3, 0), 1)), (((0, 2), 3), ((1, 2), -1)),
             (((0,), -1), ((2,), 1)), (((0, 1), -1), ((2, 0), 1))])
        self.assertEqual(
            [indicator(A_ONE, (1,)), indicator(A_ONE, (2,)), indicator(A_TWO, (1, 0)), indicator(A_TWO, (1, 1)),
             indicator(B_TWO, (0, 1)), indicator(B_TWO, (1, 0))],
            [-1, 1, 0, 1, -1, 1])


class Product(unittest.TestCase):
    def test_the_table_is_the_product_of_the_tables(self):
        for matrix in EVERY:
            for total in sums(matrix):
                for other in sums(matrix)[1::2]:
                    made = product(matrix, total, other)
                    self.assertIs(type(made), tuple)
                    tables = table(matrix, total), table(matrix, other)
                    self.assertEqual(made, sum_of(matrix, small.pairs(small.times(*tables)))
                                     if size(matrix, total) * size(matrix, other) <= 1000
                                     else product(matrix, other, total))
                    self.assertEqual(product(matrix, other, total), made)

    def test_products_of_irreducible_ones(self):
        for matrix in small.SOME + small.SOME_OF_FOUR:
            weights = small.highest_weights(matrix, 30)
            for weight in weights[:6]:
                for other in weights[:6]:
                    made = product(matrix, ((weight, 1),), ((other, 1),))
                    counts = small.times(table_of(matrix, weight), table_of(matrix, other))
                    self.assertEqual(made, small.sum_by_heads(matrix, counts, table_of))

    def test_tables_and_sums_lead_to_one(self):
        for matrix in small.SOME:
            for total in sums(matrix, 20):
                for other in sums(matrix, 20):
                    if size(matrix, total) * size(matrix, other) <= 1000:
                        made = table_times(matrix, table_of_sum(matrix, total), table_of_sum(matrix, other))
                        self.assertEqual(product(matrix, total, other), sum_of(matrix, made))

    def test_edges(self):
        for matrix in EVERY:
            one = ((small.zero(matrix), 1),)
            for total in sums(matrix):
                self.assertEqual(product(matrix, total, one), total)
                self.assertEqual(product(matrix, one, total), total)
                self.assertEqual(product(matrix, total, contrary(one)), contrary(total))
                self.assertEqual(product(matrix, total, ()), ())
                self.assertEqual(product(matrix, (), total), ())
        made = product(A_ONE, (((999,), 1),), (((999,), -1),))
        self.assertEqual(made, tuple(((k,), -1) for k in range(0, 1999, 2)))
        made = product(A_TWO, (((9, 9), 1),), (((9, 9), 1),))
        self.assertEqual(sum(number * dimension(A_TWO, weight) for weight, number in made), 10 ** 6)
        self.assertEqual(made[-1], ((27, 0), 1))


class Dual(unittest.TestCase):
    def test_weights_with_the_other_sign(self):
        for matrix in EVERY:
            for total in sums(matrix):
                back = dual(matrix, total)
                self.assertEqual(table(matrix, back), scaled(table(matrix, total), -1))
                self.assertEqual(back, tuple(sorted(back)))
                self.assertEqual(dual(matrix, back), total)

    def test_by_hand(self):
        four = matrices.of_type("A", 4)
        self.assertEqual(dual(four, (((0, 0, 1, 2), 3), ((1, 0, 0, 0), -1))), (((0, 0, 0, 1), -1), ((2, 1, 0, 0), 3)))
        self.assertEqual(dual(matrices.of_type("D", 4), (((0, 0, 1, 0), 1),)), (((0, 0, 1, 0), 1),))
        self.assertEqual(dual(B_TWO, SPIN), SPIN)
        self.assertEqual(dual(A_TWO, ()), ())


class Adams(unittest.TestCase):
    def test_weights_times_the_count(self):
        for matrix in small.SOME + small.SOME_OF_FOUR:
            for total in sums(matrix, 26)[:4]:
                for count in (1, 2, 3, 5):
                    counts = scaled(table(matrix, total), count)
                    if all(dimension(matrix, weight) <= 6000 for weight in counts if min(weight) >= 0):
                        made = adams(matrix, total, count)
                        self.assertEqual(small.plus(*[(number, expanded(matrix, weight)) for weight, number in made]),
                                         counts)

    def test_counts(self):
        for count in range(1, 21):
            self.assertEqual(adams(A_ONE, (((1,), 1),), count),
                             (((count - 2,), -1), ((count,), 1)) if count > 1 else (((1,), 1),))
            self.assertEqual(adams(A_TWO, (((0, 0), -4),), count), (((0, 0), -4),))
            self.assertEqual(adams(A_TWO, (), count), ())
        for count in (0, 21, -1, True):
            with self.assertRaises(InvalidCount) as caught:
                adams(A_ONE, (((1,), 1),), count)
            self.assertIs(caught.exception.given, count)

    def test_dimensions_above_6000(self):
        self.assertEqual(adams(A_ONE, (((299,), 1),), 20)[-1], ((5980,), 1))
        for matrix, total, count, number in (
                (A_ONE, (((300,), 1),), 20, 6001), (A_ONE, (((999,), 1),), 7, 6994),
                (A_ONE, (((3,), 1), ((300,), -1)), 20, 6001), (A_TWO, (((5, 5), 1),), 4, dimension(A_TWO, (20, 20))),
                (FOUR_ONES, (((1, 1, 1, 1), 1),), 8, 9 ** 4)):
            with self.assertRaises(TooMany) as caught:
                adams(matrix, total, count)
            self.assertEqual(caught.exception.given, number)
        self.assertEqual(adams(A_ONE, (((999,), 1),), 6)[-1], ((5994,), 1))


def expanded(matrix, weight):
    """The table of an irreducible one, also of a great dimension, in one part of one or two rows by its formula."""
    if dimension(matrix, weight) <= 1000:
        return table_of(matrix, weight)
    denominator = small.signed_orbit(matrix, small.rho(matrix))
    return divided(small.signed_orbit(matrix, small.added(weight, small.rho(matrix))), denominator)


def divided(counts, others):
    """The quotient of two polynomials, by their greatest weights."""
    head = max(others)
    made = {}
    left = dict(counts)
    while left:
        place = max(left)
        step = small.added(place, head, -1)
        made[step] = left[place] * others[head]
        for other, number in others.items():
            spot = small.added(step, other)
            left[spot] = left.get(spot, 0) - made[step] * number
            if left[spot] == 0:
                del left[spot]
    return made


class Powers(unittest.TestCase):
    def test_of_representations_by_choices(self):
        for matrix in small.SOME + small.SOME_OF_FOUR:
            for weight in small.highest_weights(matrix, 9)[:4]:
                counts = dict(table_of(matrix, weight))
                many = sum(counts.values())
                for n in range(7):
                    for power, choose, ways in ((symmetric_power, combinations_with_replacement, comb(many + n - 1, n)),
                                                (exterior_power, combinations, comb(many, n))):
                        if ways <= 500:
                            made = power(matrix, ((weight, 1),), n)
                            self.assertEqual(small.plus(*[(k, expanded(matrix, each)) for each, k in made]),
                                             power_by_choices(counts, n, choose))

    def test_of_several_irreducible_ones(self):
        for matrix, total in ((A_ONE, (((0,), 2), ((1,), 1))), (A_TWO, (((0, 1), 1), ((1, 0), 1))),
                              (A_PAIR, (((0, 1), 1), ((1, 0), 2))), (B_TWO, (((0, 0), 1), ((0, 1), 1)))):
            counts = table(matrix, total)
            for n in range(5):
                self.assertEqual(table(matrix, symmetric_power(matrix, total, n)),
                                 power_by_choices(counts, n, combinations_with_replacement))
                self.assertEqual(table(matrix, exterior_power(matrix, total, n)),
                                 power_by_choices(counts, n, combinations))

    def test_of_differences(self):
        # powers of X - Y by those of X and of Y
        for matrix, weight, other in ((A_ONE, (1,), (2,)), (A_TWO, (1, 0), (0, 1)), (B_TWO, (0, 1), (0, 0)),
                                      (A_PAIR, (1, 0), (0, 1)), (A_TWO, (0, 0), (1, 0))):
            total = tuple(sorted([(weight, 1), (other, -1)]))
            x, y = ((weight, 1),), ((other, 1),)
            for n in range(5):
                for power, opposite in ((symmetric_power, exterior_power), (exterior_power, symmetric_power)):
                    expected = small.plus(*[
                        ((-1) ** k, product(matrix, power(matrix, x, n - k), opposite(matrix, y, k)))
                        for k in range(n + 1)])
                    self.assertEqual(power(matrix, total, n), small.pairs(expected))

    def test_squares_are_together_the_product(self):
        for matrix in EVERY:
            for total in sums(matrix, 30):
                if size(matrix, total) <= 60:
                    both = small.plus((1, symmetric_power(matrix, total, 2)), (1, exterior_power(matrix, total, 2)))
                    self.assertEqual(small.pairs(both), product(matrix, total, total))

    def test_counts_0_and_1(self):
        for matrix in EVERY:
            one = ((small.zero(matrix), 1),)
            for total in sums(matrix):
                for power in (symmetric_power, exterior_power):
                    self.assertEqual(power(matrix, total, 0), one)
                    self.assertEqual(power(matrix, total, 1), total)
        for power in (symmetric_power, exterior_power):
            self.assertEqual(power(A_ONE, (((999,), 1),), 1), (((999,), 1),))
            self.assertEqual(power(A_ONE, (((999,), 1),), 0), (((0,), 1),))

    def test_the_empty_sum(self):
        for power in (symmetric_power, exterior_power):
            self.assertEqual(power(A_TWO, (), 0), (((0, 0), 1),))
            for n in range(1, 7):
                self.assertEqual(power(A_TWO, (), n), ())

    def test_powers_beyond_the_size(self):
        for n in (5, 6):
            self.assertEqual(exterior_power(B_TWO, SPIN, n), ())
            self.assertEqual(exterior_power(A_ONE, (((1,), 2),), n), ())
        self.assertEqual(exterior_power(B_TWO, SPIN, 4), (((0, 0), 1),))
        self.assertEqual(exterior_power(A_TWO, (((1, 0), -1),), 6), symmetric_power(A_TWO, (((1, 0), 1),), 6))
        self.assertEqual(exterior_power(A_TWO, (((1, 0), -1),), 5), contrary(symmetric_power(A_TWO, (((1, 0), 1),), 5)))
        self.assertEqual(symmetric_power(A_TWO, (((1, 0), -1),), 4), ())
        self.assertEqual(symmetric_power(A_TWO, (((1, 0), -1),), 3), (((0, 0), -1),))

    def test_by_hand(self):
        self.assertEqual(symmetric_power(A_TWO, (((1, 0), 1),), 6), (((6, 0), 1),))
        self.assertEqual(exterior_power(A_TWO, (((1, 0), 1),), 2), (((0, 1), 1),))
        self.assertEqual(symmetric_power(A_ONE, (((2,), 1),), 3), (((2,), 1), ((6,), 1)))
        self.assertEqual(symmetric_power(G_TWO, (((1, 0), 1),), 2), (((0, 0), 1), ((2, 0), 1)))
        self.assertEqual(exterior_power(G_TWO, (((1, 0), 1),), 2), (((0, 1), 1), ((1, 0), 1)))
        self.assertEqual(symmetric_power(A_TWO, (((0, 0), 3),), 4), (((0, 0), 15),))

    def test_more_than_4000_ways(self):
        for power, total, count, ways in (
                (symmetric_power, (((87,), 1),), 2, 3916), (symmetric_power, (((88,), 1),), 2, 4005),
                (symmetric_power, (((26,), -1),), 3, 3654), (symmetric_power, (((27,), -1),), 3, 4060),
                (symmetric_power, (((0,), -3), ((6,), 1)), 6, 5005), (symmetric_power, (((0,), -3), ((5,), 1)), 6, 3003),
                (symmetric_power, (((999,), 1),), 6, comb(1005, 6)), (symmetric_power, (((999,), 1),), 2, 500500),
                (exterior_power, (((88,), 1),), 2, 3916), (exterior_power, (((89,), 1),), 2, 4005),
                (exterior_power, (((29,), 1),), 3, 4060), (exterior_power, (((28,), 1),), 3, 3654),
                (exterior_power, (((0,), 4), ((10,), -1)), 6, 5005), (exterior_power, (((0,), 4), ((9,), -1)), 6, 3003),
                (exterior_power, (((999,), 1),), 6, comb(1000, 6))):
            if ways <= 4000:
                made = power(A_ONE, total, count)
                self.assertEqual(sum(number * (weight[0] + 1) for weight, number in made) ** 2,
                                 self.number_of(power, total, count) ** 2)
            else:
                with self.assertRaises(TooMany) as caught:
                    power(A_ONE, total, count)
                self.assertEqual(caught.exception.given, ways)

    def number_of(self, power, total, count):
        """The sum of all counts of the power, by generating functions."""
        many = sum(number * (weight[0] + 1) for weight, number in total)
        number = 1
        for k in range(count):
            number = number * (many + k if power is symmetric_power else many - k) // (k + 1)
        return number

    def test_counts_that_are_none(self):
        for power in (symmetric_power, exterior_power):
            power(A_ONE, (((1,), 1),), 6)
            for count in (-1, 7, True, False, None, "2"):
                with self.assertRaises(InvalidCount) as caught:
                    power(A_ONE, (((999,), 1),), count)
                self.assertIs(caught.exception.given, count)
            with self.assertRaises(InvalidSum):
                power(A_ONE, (((1,), 0),), 7)
            with self.assertRaises(TooMany) as caught:
                power(A_ONE, (((1000,), 1),), 7)
            self.assertEqual(caught.exception.given, 1001)


class Indicator(unittest.TestCase):
    def test_as_the_trivial_one_stands_in_the_squares(self):
        for matrix in EVERY:
            one = small.zero(matrix)
            for weight in small.highest_weights(matrix, 60 if len(matrix) < 3 else 27):
                total = ((weight, 1),)
                both = dict(symmetric_power(matrix, total, 2)), dict(exterior_power(matrix, total, 2))
                self.assertEqual((both[0].get(one, 0), both[1].get(one, 0)),
                                 {1: (1, 0), -1: (0, 1), 0: (0, 0)}[indicator(matrix, weight)])

    def test_by_hand(self):
        for number in (0, 1, 2, 3, HUGE, HUGE + 1):
            self.assertEqual(indicator(A_ONE, (number,)), -1 if number % 2 else 1)
            self.assertEqual(indicator(A_TWO, (number, number)), 1)
            self.assertEqual(indicator(A_TWO, (number, number + 1)), 0)
            self.assertEqual(indicator(matrices.of_type("C", 3), (number, 0, HUGE)), 1 if number % 2 else -1)
            self.assertEqual(indicator(matrices.of_type("A", 3), (1, number, 1)), 1)
            self.assertEqual(indicator(A_PAIR, (number, 1)), 1 if number % 2 else -1)
        for matrix in (G_TWO, matrices.of_type("F", 4), matrices.of_type("D", 4)):
            self.assertEqual(indicator(matrix, tuple(range(1, len(matrix) + 1))), 1)
        self.assertEqual(HUGE % 2, 1)


if __name__ == "__main__":
    unittest.main()
