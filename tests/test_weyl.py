import unittest
from math import prod

from tests import matrices
from tests.matrices import APART, B_TWO, G_TWO, HUGE, TWO
from weylweights.roots import positive_roots
from weylweights.weyl import (
    counts_by_length, how_many, inverse, least_word, led, length_of, longest, made_negative, order_of, product,
)

MIXED = matrices.mixed_finite()
GROUPS = [
    ((2,),), TWO, B_TWO, G_TWO, matrices.reordered(G_TWO, (1, 0)), matrices.together(((2,),), ((2,),)), APART,
    matrices.of_type("A", 3), matrices.reordered(matrices.of_type("B", 3), (1, 2, 0)), matrices.of_type("C", 3),
    matrices.reordered(matrices.together(TWO, ((2,),)), (0, 2, 1)),
]


def matrix_of_element(matrix, word):
    """The images of the simple roots: unlike for unlike elements."""
    many = len(matrix)
    images = []
    for i in range(many):
        root = tuple(int(i == j) for j in range(many))
        for node in reversed(word):
            root = matrices.root_reflection(matrix, node, root)
        images.append(root)
    return tuple(images)


def least_words(matrix):
    """The least word of each element: the words by length and then in Python's order, unlike elements kept."""
    found = {matrix_of_element(matrix, ()): ()}
    level = [()]
    while level:
        longer = []
        for word in level:
            for node in range(len(matrix)):
                element = matrix_of_element(matrix, (*word, node))
                if element not in found:
                    found[element] = (*word, node)
                    longer.append((*word, node))
        level = longer
    return found


def some_words(many, lengths):
    seed = 7
    words = []
    for length in lengths:
        word = []
        for _ in range(length):
            seed = (seed * 6364136223846793005 + 1442695040888963407) % 2 ** 64
            word.append((seed >> 33) % many)
        words.append(tuple(word))
    return words


class Examples(unittest.TestCase):
    def test_words(self):
        self.assertEqual(
            [led(TWO, (0, 1), (1, 1)), led(TWO, (), (5, -7)), least_word(TWO, (1, 0, 1)),
             length_of(TWO, (0, 1, 0, 1)), order_of(TWO, (0, 1)), order_of(G_TWO, (0, 1))],
            [(-2, 1), (5, -7), (0, 1, 0), 2, 3, 6])

    def test_group(self):
        self.assertEqual(
            [product(TWO, (0,), (1, 0)), inverse(G_TWO, (0, 1)), longest(G_TWO), made_negative(TWO, (0, 1)),
             counts_by_length(G_TWO), how_many(matrices.of_type("E", 8))],
            [(0, 1, 0), (1, 0), (0, 1, 0, 1, 0, 1), ((0, 1), (1, 1)), (1, 2, 2, 2, 2, 2, 1), 696729600])


class WholeGroups(unittest.TestCase):
    def test_least_words_and_counts(self):
        for matrix in [*GROUPS, matrices.of_type("A", 4), matrices.of_type("D", 4), matrices.of_type("B", 4)]:
            words = least_words(matrix)
            lengths = [len(word) for word in words.values()]
            self.assertEqual(how_many(matrix), len(words))
            self.assertEqual(counts_by_length(matrix), tuple(map(lengths.count, range(max(lengths) + 1))))
            self.assertEqual(longest(matrix), max(words.values(), key=len))
            self.assertEqual(lengths.count(len(longest(matrix))), 1)
            for word in words.values():
                self.assertEqual(least_word(matrix, word), word)
                self.assertEqual(length_of(matrix, word), len(word))

    def test_other_words_of_the_elements(self):
        for matrix in GROUPS:
            words = least_words(matrix)
            for word in some_words(len(matrix), [*range(30), 100, 299, 300]):
                least = words[matrix_of_element(matrix, word)]
                self.assertEqual(least_word(matrix, word), least)
                self.assertEqual(length_of(matrix, word), len(least))

    def test_products(self):
        for matrix in GROUPS:
            words = least_words(matrix)
            for word in list(words.values())[:24]:
                for other in words.values():
                    self.assertEqual(product(matrix, word, other), words[matrix_of_element(matrix, word + other)])

    def test_inverses_and_orders(self):
        for matrix in GROUPS:
            words = least_words(matrix)
            for word in words.values():
                back = inverse(matrix, word)
                self.assertEqual(back, words[matrix_of_element(matrix, word[::-1])])
                self.assertEqual(product(matrix, word, back), ())
                many = 1
                while matrix_of_element(matrix, word * many) != matrix_of_element(matrix, ()):
                    many += 1
                self.assertEqual(order_of(matrix, word), many)

    def test_made_negative(self):
        for matrix in GROUPS:
            for word in least_words(matrix).values():
                expected = []
                for root in positive_roots(matrix):
                    image = root
                    for node in reversed(word):
                        image = matrices.root_reflection(matrix, node, image)
                    if max(image) <= 0:
                        expected.append(root)
                self.assertEqual(made_negative(matrix, word), tuple(expected))
                self.assertEqual(len(expected), len(word))

    def test_led(self):
        for matrix in GROUPS:
            weights = [tuple(range(1, len(matrix) + 1)), (0,) * len(matrix), (-HUGE,) * len(matrix)]
            for word in some_words(len(matrix), [0, 1, 2, 3, 7, 20, 300]):
                for weight in weights:
                    image = weight
                    for node in reversed(word):
                        image = matrices.weight_reflection(matrix, node, image)
                    self.assertEqual(led(matrix, word, weight), image)
                    self.assertEqual(led(matrix, word[::-1], image), weight)


class LargeGroups(unittest.TestCase):
    def test_numbers_of_elements(self):
        for at, name in enumerate(matrices.TYPES):
            matrix = matrices.reordered(matrices.of_type(*name), matrices.shuffled(name[1], at))
            self.assertEqual(how_many(matrix), matrices.group_order(*name))
        self.assertEqual([how_many(matrices.of_type("E", many)) for many in (6, 7)], [51840, 2903040])
        self.assertEqual(how_many(matrices.of_type("D", 8)), 2 ** 7 * 40320)
        self.assertEqual(how_many(matrices.of_type("C", 8)), 2 ** 8 * 40320)

    def test_counts_by_length(self):
        for matrix in MIXED:
            counts = counts_by_length(matrix)
            self.assertIs(type(counts), tuple)
            self.assertEqual(counts, counts[::-1])
            self.assertEqual(sum(counts), how_many(matrix))
            self.assertEqual(len(counts), len(positive_roots(matrix)) + 1)
            self.assertEqual(counts[:2], (1, len(matrix)))

    def test_longest(self):
        for matrix in MIXED:
            word = longest(matrix)
            self.assertEqual(made_negative(matrix, word), positive_roots(matrix))
            self.assertEqual(len(word), len(positive_roots(matrix)))
            self.assertEqual(least_word(matrix, word), word)
            self.assertEqual(led(matrix, word, (1,) * len(matrix)), (-1,) * len(matrix))
            self.assertEqual(product(matrix, word, word), ())
            self.assertEqual(order_of(matrix, word), 2)

    def test_coxeter_elements(self):
        numbers = {("E", 6): 12, ("E", 7): 18, ("E", 8): 30, ("F", 4): 12, ("G", 2): 6}
        for letter, many in matrices.TYPES:
            highest = {"A": many + 1, "B": 2 * many, "C": 2 * many, "D": 2 * many - 2}
            expected = numbers.get((letter, many)) or highest[letter]
            word = matrices.shuffled(many, many)
            self.assertEqual(order_of(matrices.of_type(letter, many), word), expected)

    def test_words_of_300_nodes(self):
        for matrix in MIXED:
            for word in some_words(len(matrix), [300, 299]):
                least = least_word(matrix, word)
                rho = (1,) * len(matrix)
                self.assertEqual(led(matrix, least, rho), led(matrix, word, rho))
                self.assertEqual(length_of(matrix, word), len(least))
                self.assertEqual(len(made_negative(matrix, word)), len(least))
                self.assertEqual(product(matrix, word, word[::-1]), ())
                self.assertEqual(product(matrix, word, word), least_word(matrix, least + least))
                self.assertEqual(len(inverse(matrix, word)), len(least))
                self.assertEqual(product(matrix, inverse(matrix, word), least), ())

    def test_orders_of_several_parts(self):
        matrix = matrices.together(TWO, matrices.of_type("A", 4), ((2,),))
        self.assertEqual(order_of(matrix, (0, 1, 2, 3, 4, 5, 6)), 30)
        self.assertEqual(prod([3, 5]), order_of(matrix, (0, 1, 2, 3, 4, 5)))

    def test_the_empty_word(self):
        for matrix in MIXED:
            self.assertEqual(least_word(matrix, ()), ())
            self.assertEqual(inverse(matrix, ()), ())
            self.assertEqual(product(matrix, (), ()), ())
            self.assertEqual(made_negative(matrix, ()), ())
            self.assertEqual([length_of(matrix, ()), order_of(matrix, ())], [0, 1])


if __name__ == "__main__":
    unittest.main()
