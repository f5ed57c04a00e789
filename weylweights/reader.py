"""The language of EXPRESSIONs: its words, and the reading of texts.

What is wrong with the form of a text is raised where it is met. What is wrong otherwise is kept, the least place of it,
and raised at the end, since any word that cannot go on is told ahead of it.
"""

from weylweights.errors import BadText
from weylweights.expressions import DEEPEST, MOST_TIMES, check_tree_size, depth_of
from weylweights.weights import check_small

FIGURES = "0123456789"
LETTERS = "abcdefghijklmnopqrstuvwxyz"
KEY_WORDS = ("let", "trivial", "adjoint", "dual", "sym", "ext")
LONGEST_NAME = 12
LONGEST_ROW = 20
MOST_OPEN = 12
SIGNS = {"+": "sum", "-": "less"}
PREFIXES = {"dual": "dual", "sym": "symmetric square", "ext": "exterior square"}
TRIVIAL = ("trivial",)


def is_row_of_figures(text):
    """Whether the text is one or more of the digits 0 to 9."""
    return len(text) > 0 and all([sign in FIGURES for sign in text])


def is_name(value):
    """Whether the value is a name: a small word of up to 12 signs that is no key word."""
    if not isinstance(value, str) or not 1 <= len(value) <= LONGEST_NAME or value in KEY_WORDS:
        return False
    return value[0] in LETTERS and all([_goes_on_in_small_word(sign) for sign in value])


def _goes_on_in_small_word(sign):
    return sign in LETTERS or sign in FIGURES


def _is_number(word):
    return len(word) <= LONGEST_ROW and is_row_of_figures(word)


def _words(text, start, end):
    """The pairs of a place and the word there; signs that stand in no word are told like words."""
    words = []
    at = start
    while at < end:
        behind = _behind_word(text, at, end)
        if text[at] == "#":
            at = _end_of_remark(text, at, end)
        elif text[at] in " \n":
            at += 1
        else:
            words.append((at, text[at:behind]))
            at = behind
    return words


def _behind_word(text, at, end):
    behind = at + 1
    if text[at] in FIGURES:
        while behind < end and text[behind] in FIGURES:
            behind += 1
    elif text[at] in LETTERS:
        while behind < end and _goes_on_in_small_word(text[behind]):
            behind += 1
    return behind


def _end_of_remark(text, at, end):
    feed = text.find("\n", at, end)
    return end if feed < 0 else feed


class Reading:
    """A text that is being read: how far it is read, what is open, and the least place of what is wrong."""

    def __init__(self, rank, text, start, end, told):
        # behind the last word stands one without signs, which goes on nowhere
        self.words = _words(text, start, end) + [(end, "")]
        self.at = 0
        self.rank = rank
        self.told = dict(told)
        self.many_open = 0
        self.fault = None

    def place(self):
        return self.words[self.at][0]

    def word(self):
        return self.words[self.at][1]

    def step(self):
        """The word ahead; the reading goes on behind it."""
        word = self.word()
        self.at += 1
        return word

    def take(self, wanted):
        if self.word() != wanted:
            raise BadText(self.place())
        self.at += 1

    def take_end(self):
        self.take("")
        if self.fault is not None:
            raise BadText(self.fault)

    def step_open(self):
        """As step, over a word that is open up to some later one."""
        if self.many_open == MOST_OPEN:
            raise BadText(self.place())
        self.many_open += 1
        return self.step()

    def wrong(self, place):
        """What goes on in the place of what is wrong there."""
        if self.fault is None or place < self.fault:
            self.fault = place
        return TRIVIAL

    def made(self, place, tree):
        """The tree, unless it becomes too deep by the word at the place."""
        return self.wrong(place) if depth_of(tree) > DEEPEST else tree

    def expression(self):
        tree = self.term()
        while self.word() in SIGNS:
            place = self.place()
            sign = self.step()
            tree = self.made(place, (SIGNS[sign], tree, self.term()))
        return tree

    def term(self):
        tree = self.factor()
        while self.word() == "*":
            place = self.place()
            self.step()
            tree = self.made(place, ("product", tree, self.factor()))
        return tree

    def factor(self):
        place = self.place()
        if _is_number(self.word()):
            number = int(self.step_open())
            tree = ("times", number, self.factor())
            self.many_open -= 1
            return self.made(place, tree) if number <= MOST_TIMES else self.wrong(place)
        if self.word() in PREFIXES:
            prefix = self.step_open()
            tree = (PREFIXES[prefix], self.factor())
            self.many_open -= 1
            return self.made(place, tree)
        return self.base()

    def base(self):
        place = self.place()
        if self.word() == "V":
            return self.irreducible()
        if self.word() == "[":
            return self.bracket()
        if self.word() in ("trivial", "adjoint"):
            return (self.step(),)
        if not is_name(self.word()):
            raise BadText(place)
        name = self.step()
        return self.told[name] if name in self.told else self.wrong(place)

    def irreducible(self):
        self.take("V")
        self.take("(")
        numbers = [self.number()]
        while len(numbers) < self.rank:
            self.take(",")
            numbers.append(self.number())
        self.take(")")
        return "irreducible", tuple(numbers)

    def number(self):
        if not _is_number(self.word()):
            raise BadText(self.place())
        return int(self.step())

    def bracket(self):
        self.step_open()
        tree = self.expression()
        self.take("]")
        self.many_open -= 1
        return tree

    def statement(self):
        self.take("let")
        place = self.place()
        if not is_name(self.word()):
            raise BadText(place)
        name = self.step()
        if name in self.told:
            self.wrong(place)
        self.take("=")
        tree = self.expression()
        self.take(";")
        self.told[name] = tree


def tree_in(rank, text, start, end, told):
    """The EXPRESSION that the text is from the start up to the end; told has what names stand for."""
    reading = Reading(rank, text, start, end, told)
    tree = reading.expression()
    reading.take_end()
    return tree


def _check_text(text):
    if not isinstance(text, str):
        raise BadText(None)


def read_expression(matrix, text):
    """The EXPRESSION of the text."""
    check_small(matrix)
    _check_text(text)
    tree = tree_in(len(matrix), text, 0, len(text), {})
    check_tree_size(matrix, tree, {})
    return tree


def read_list(matrix, text):
    """The ascending tuple of the pairs of a name and the EXPRESSION for which it stands."""
    check_small(matrix)
    _check_text(text)
    reading = Reading(len(matrix), text, 0, len(text), {})
    while reading.word() != "":
        reading.statement()
    reading.take_end()
    pairs = tuple(sorted(reading.told.items()))
    for _, tree in pairs:
        check_tree_size(matrix, tree, {})
    return pairs
