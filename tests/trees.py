"""EXPRESSIONs for the tests, and slow plain ways to reckon with them and to read them, from the document's words."""

from functools import lru_cache

from tests import matrices, small
from tests.matrices import values_at
from weylweights.characters import table_of

TRIVIAL, ADJOINT = ("trivial",), ("adjoint",)
TWO_PARTS = ("sum", "less", "product")
ONE_PART = ("dual", "symmetric square", "exterior square")


def parts(tree):
    return [part for part in tree[1:] if isinstance(part, tuple) and part and isinstance(part[0], str)]


def depth(tree):
    return 1 + max([depth(part) for part in parts(tree)], default=0)


def kinds_in(tree):
    return {tree[0]}.union(*[kinds_in(part) for part in parts(tree)])


def weights_in(tree):
    return ({tree[1]} if tree[0] == "irreducible" else set()).union(*[weights_in(part) for part in parts(tree)])


def size(matrix, tree):
    sizes = [size(matrix, part) for part in parts(tree)]
    if tree[0] == "irreducible":
        return small.dimension(matrix, tree[1])
    if tree == ADJOINT:
        return len(matrices.all_roots(matrix)) + len(matrix)
    if tree == TRIVIAL:
        return 1
    if tree[0] == "product":
        return sizes[0] * sizes[1]
    if tree[0] == "times":
        return sizes[0] * tree[1] if tree[1] else sizes[0]
    if tree[0].endswith("square"):
        return sizes[0] * (sizes[0] + 1) // 2
    return sum(sizes)


@lru_cache(None)
def character(matrix, tree):
    """The multiplicities, as a dict."""
    made = [character(matrix, part) for part in parts(tree)]
    if tree[0] == "irreducible":
        return dict(table_of(matrix, tree[1]))
    if tree == TRIVIAL:
        return {small.zero(matrix): 1}
    if tree == ADJOINT:
        roots = {tuple(values_at(matrix, root)): 1 for root in matrices.all_roots(matrix)}
        return {**roots, small.zero(matrix): len(matrix)}
    if tree[0] == "sum":
        return small.plus((1, made[0]), (1, made[1]))
    if tree[0] == "less":
        return small.plus((1, made[0]), (-1, made[1]))
    if tree[0] == "product":
        return small.times(*made)
    if tree[0] == "times":
        return small.plus((tree[1], made[0]))
    if tree[0] == "dual":
        return {tuple(-number for number in weight): count for weight, count in made[0].items()}
    return square(made[0], 1 if tree[0] == "symmetric square" else -1)


def square(counts, sign):
    """By pairs of basis vectors for a representation; by the document's halves otherwise, nothing being left over."""
    doubles = {tuple(2 * number for number in weight): count for weight, count in counts.items()}
    both = small.plus((1, small.times(counts, counts)), (sign, doubles))
    assert all(count % 2 == 0 for count in both.values())
    return {weight: count // 2 for weight, count in both.items()}


def table(matrix, tree):
    return small.pairs(character(matrix, tree))


@lru_cache(None)
def leaves(matrix):
    """The leaves, the irreducible ones of the least dimensions among them."""
    weights = [weight for weight in small.highest_weights(matrix, 26) if any(weight)]
    weights = sorted(weights, key=lambda weight: (small.dimension(matrix, weight), weight))[:2]
    return [TRIVIAL, ADJOINT, ("irreducible", small.zero(matrix)), *[("irreducible", weight) for weight in weights]]


def over(tree, other):
    """What is made of the first tree, the other one standing beside it where two are asked for."""
    return [
        *[(kind, tree, other) for kind in TWO_PARTS], *[(kind, other, tree) for kind in TWO_PARTS],
        *[("times", number, tree) for number in (0, 1, 3)], *[(kind, tree) for kind in ONE_PART],
    ]


@lru_cache(None)
def some(matrix, most=1000):
    """EXPRESSIONs of each kind within each other kind, of sizes up to the number."""
    first = leaves(matrix)
    found = list(first)
    for tree in first[1:]:
        found.extend(over(tree, first[-1]))
    least = over(first[3], first[-1])
    for at, tree in enumerate(least):
        found.extend(over(tree, first[at % len(first)]))
    for at, tree in enumerate(over(("less", first[0], first[-1]), first[3])):
        found.extend(over(tree, first[at % 2])[at % 3::3])
    return [tree for tree in dict.fromkeys(found) if size(matrix, tree) <= most]


def nested(deep, tree=TRIVIAL):
    """The tree in as many duals as make it so deep."""
    while depth(tree) < deep:
        tree = ("dual", tree)
    return tree


# reading by operators' precedence, with stacks


FIGURES = "0123456789"
SMALL = "abcdefghijklmnopqrstuvwxyz"
BINARY = {"+": (1, "sum"), "-": (1, "less"), "*": (2, "product")}
PREFIX = {"dual": "dual", "sym": "symmetric square", "ext": "exterior square"}
KEY_WORDS = {"let", "trivial", "adjoint", *PREFIX}


def words(text):
    found, at = [], 0
    while at < len(text):
        start = at
        if text[at] == "#":
            while at < len(text) and text[at] != "\n":
                at += 1
            continue
        letters = FIGURES if text[at] in FIGURES else SMALL + FIGURES if text[at] in SMALL else ""
        at += 1
        while at < len(text) and text[at] in letters:
            at += 1
        if text[start] not in " \n":
            found.append((text[start:at], start))
    return found


def is_number(word):
    return word != "" and set(word) <= set(FIGURES) and len(word) <= 20


def is_name(word):
    return word != "" and word[0] in SMALL and set(word) <= set(SMALL + FIGURES) and len(word) <= 12 and (
        word not in KEY_WORDS)


class Wrong(Exception):
    """The place of the first word that cannot go on."""


class Plain:
    """Reads by a stack of values and one of what waits for them."""

    def __init__(self, text, rank, names=None):
        self.words, self.end, self.rank = words(text), len(text), rank
        self.names = dict(names or {})
        self.faults = []
        self.at = 0

    def ahead(self):
        return self.words[self.at] if self.at < len(self.words) else ("", self.end)

    def due(self, test):
        word, place = self.ahead()
        if not (test(word) if callable(test) else word == test):
            raise Wrong(place)
        self.at += 1
        return word, place

    def told(self, place, tree):
        if depth(tree) <= 6:
            return tree
        self.faults.append(place)
        return TRIVIAL

    def reduced(self, values, waiting, least):
        while waiting and waiting[-1][0] >= least:
            _, word, place = waiting.pop()
            tree = values.pop()
            if word in BINARY:
                tree = self.told(place, (BINARY[word][1], values.pop(), tree))
            elif word in PREFIX:
                tree = self.told(place, (PREFIX[word], tree))
            elif int(word) > 100:
                self.faults.append(place)
                tree = TRIVIAL
            else:
                tree = self.told(place, ("times", int(word), tree))
            values.append(tree)

    def expression(self):
        """Brackets wait with 0, + and - with 1, * with 2, what stands ahead of a FACTOR with 3."""
        values, waiting = [], []
        while True:
            word, place = self.ahead()
            if word in PREFIX or is_number(word) or word == "[":
                if len([each for each in waiting if each[0] in (0, 3)]) == 12:
                    raise Wrong(place)
                waiting.append((0 if word == "[" else 3, word, place))
                self.at += 1
                continue
            values.append(self.operand())
            self.reduced(values, waiting, 3)
            while waiting and self.ahead()[0] == "]":
                self.reduced(values, waiting, 1)
                if not waiting:
                    break
                waiting.pop()
                self.at += 1
                self.reduced(values, waiting, 3)
            word, place = self.ahead()
            if word not in BINARY:
                break
            self.reduced(values, waiting, BINARY[word][0])
            waiting.append((BINARY[word][0], word, place))
            self.at += 1
        self.reduced(values, waiting, 1)
        if waiting:
            raise Wrong(self.ahead()[1])
        return values[0]

    def operand(self):
        word, place = self.ahead()
        self.at += 1
        if word in ("trivial", "adjoint"):
            return (word,)
        if is_name(word):
            if word not in self.names:
                self.faults.append(place)
            return self.names.get(word, TRIVIAL)
        if word != "V":
            raise Wrong(place)
        self.due("(")
        numbers = []
        for at in range(self.rank):
            if at:
                self.due(",")
            numbers.append(int(self.due(is_number)[0]))
        self.due(")")
        return "irreducible", tuple(numbers)

    def list(self):
        while self.at < len(self.words):
            self.due("let")
            name, place = self.due(is_name)
            if name in self.names:
                self.faults.append(place)
            self.due("=")
            tree = self.expression()
            self.due(";")
            self.names[name] = tree
        return tuple(sorted(self.names.items()))


def read(text, rank, kind="expression"):
    """What the text is read as, or the place that is told as wrong."""
    reading = Plain(text, rank)
    try:
        made = getattr(reading, kind)()
        reading.due("")
    except Wrong as wrong:
        return wrong.args[0]
    return min(reading.faults) if reading.faults else made
