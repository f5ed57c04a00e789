"""The texts of EXPRESSIONs and of sums."""

from weylweights.expressions import check_expression
from weylweights.tables import check_sum
from weylweights.weights import check_small

SIGNS = {"sum": "+", "less": "-"}
PREFIXES = {"dual": "dual", "symmetric square": "sym", "exterior square": "ext"}
SUMS = ("sum", "less")
WITH_SIGNS = ("sum", "less", "product")


def expression_text(matrix, expression):
    """The text of the EXPRESSION, with no more brackets than it takes to read it again."""
    check_small(matrix)
    check_expression(matrix, expression)
    return _text(expression)


def _text(tree):
    word = tree[0]
    if word == "irreducible":
        return weight_text(tree[1])
    if word in SUMS:
        return f"{_text(tree[1])} {SIGNS[word]} {_text_within(SUMS, tree[2])}"
    if word == "product":
        return f"{_text_within(SUMS, tree[1])} * {_text_within(WITH_SIGNS, tree[2])}"
    if word == "times":
        return f"{tree[1]} {_text_within(WITH_SIGNS, tree[2])}"
    if word in PREFIXES:
        return f"{PREFIXES[word]} {_text_within(WITH_SIGNS, tree[1])}"
    return word


def _text_within(bracketed, tree):
    """The text, with brackets if the word of the tree is one of those that take them there."""
    return f"[{_text(tree)}]" if tree[0] in bracketed else _text(tree)


def weight_text(weight):
    numbers = ", ".join([str(number) for number in weight])
    return f"V({numbers})"


def sum_text(matrix, total):
    """The text of the sum."""
    check_small(matrix)
    check_sum(matrix, total)
    return text_of_sum(total)


def text_of_sum(total):
    text = ""
    for weight, coefficient in total:
        sign = "-" if coefficient < 0 else "+"
        if text != "":
            text = f"{text} {sign} "
        elif sign == "-":
            text = sign
        text = text + _term_text(weight, abs(coefficient))
    return text if text != "" else "0"


def _term_text(weight, times):
    return weight_text(weight) if times == 1 else f"{times} {weight_text(weight)}"
