"""The console: lines are said to a desk that keeps a book, each is answered by a text."""

from weylweights.books import book_after, book_again, book_before, fresh, sums_of
from weylweights.errors import BadText, InvalidDeed, InvalidLines, NoPicture, NothingToRedo, NothingToUndo, TooMany
from weylweights.expressions import (
    check_tree_size, coefficient_at, contains_sum, counts_of_tree, homs_of_sums, is_of_representation, sum_of_tree,
)
from weylweights.pictures import rows_of_letters
from weylweights.printer import text_of_sum
from weylweights.reader import is_name, is_row_of_figures, tree_in
from weylweights.tables import pairs_of_counts
from weylweights.types import is_type, matrix_of, rank_of
from weylweights.weights import MOST_ROWS

MOST_LINES = 200
NOT_UNDERSTOOD = "?"


def run(lines):
    """The answers to the lines."""
    _check_lines(lines)
    book = fresh(matrix_of("A1"))
    answers = []
    for line in lines:
        book, answer = _said(book, line)
        answers.append(answer)
    return tuple(answers)


def _check_lines(lines):
    if not isinstance(lines, tuple) or len(lines) > MOST_LINES:
        raise InvalidLines(None)
    for index, line in enumerate(lines):
        if not isinstance(line, str):
            raise InvalidLines(index)


def _said(book, line):
    """The book and the answer behind the line."""
    try:
        return _answered(book, line)
    except BadText as fault:
        return book, f"BadText {fault.spot}"
    except TooMany:
        return book, "too great"
    except InvalidDeed:
        return book, "does not fit"
    except (NothingToUndo, NothingToRedo):
        return book, "nothing there"
    except NoPicture:
        return book, "no picture"


def _answered(book, line):
    command = line.lstrip(" ").partition(" ")[0]
    if command == "":
        return book, ""
    start = line.find(command) + len(command)
    # a command stands alone just if nothing is told to it
    if (line[start:].strip(" ") == "") != (command in ALONE):
        return book, NOT_UNDERSTOOD
    if command in CHANGES:
        change = CHANGES[command]
        return change(book, line, start)
    if command in QUESTIONS:
        question = QUESTIONS[command]
        return book, question(book[0], _tree(book, line, start, len(line)))
    if command in COMPARISONS and line.count("=") == 1:
        compare = COMPARISONS[command]
        equals = line.find("=")
        total = _sum_told(book, line, start, equals)
        return book, compare(total, _sum_told(book, line, equals + 1, len(line)))
    return book, NOT_UNDERSTOOD


def _tree(book, line, start, end):
    """The EXPRESSION that stands in the line from the start up to the end."""
    matrix, entries = book[0]
    tree = tree_in(len(matrix), line, start, end, {name: ("named", name) for name, _ in entries})
    check_tree_size(matrix, tree, sums_of(entries))
    return tree


def _sum_told(book, line, start, end):
    return _sum_of(book[0], _tree(book, line, start, end))


def _sum_of(state, tree):
    matrix, entries = state
    return sum_of_tree(matrix, tree, sums_of(entries))


def _words(line, start):
    return [word for word in line[start:].split(" ") if word != ""]


def _with_count(book):
    """The book, and how many entries it has."""
    return book, f"{len(book[0][1])} entries"


def _change_type(book, line, start):
    name = " ".join(_words(line, start))
    if not is_type(name) or rank_of(name) > MOST_ROWS:
        return book, NOT_UNDERSTOOD
    return fresh(matrix_of(name)), "done"


def _change_let(book, line, start):
    equals = line.find("=")
    name = line[start:equals].strip(" ")
    if equals < 0 or not is_name(name):
        return book, NOT_UNDERSTOOD
    return _with_count(book_after(book, ("define", name, _tree(book, line, equals + 1, len(line)))))


def _change_forget(book, line, start):
    name = line[start:].strip(" ")
    if not is_name(name):
        return book, NOT_UNDERSTOOD
    return _with_count(book_after(book, ("forget", name)))


def _change_restrict(book, line, start):
    words = _words(line, start)
    if not all([_is_plain_number(word) for word in words]):
        return book, NOT_UNDERSTOOD
    return _with_count(book_after(book, ("restrict", tuple([int(word) for word in words]))))


def _is_plain_number(word):
    """Whether the word is a row of figures without noughts ahead."""
    return is_row_of_figures(word) and (word == "0" or word[0] != "0")


def _change_undo(book, _line, _start):
    return _with_count(book_before(book))


def _change_redo(book, _line, _start):
    return _with_count(book_again(book))


def _show(book, _line, _start):
    rows = [f"{name} = {text_of_sum(total)}" for name, total in book[0][1]]
    return book, "\n".join(rows) if rows else "nothing"


def _dimension(state, tree):
    matrix, entries = state
    counts = counts_of_tree(matrix, tree, sums_of(entries))
    return str(sum(counts.values()))


def _invariants(state, tree):
    return str(coefficient_at(_sum_of(state, tree), (0,) * len(state[0])))


def _decompose(state, tree):
    return text_of_sum(_sum_of(state, tree))


def _is(state, tree):
    return "representation" if is_of_representation(_sum_of(state, tree)) else "virtual"


def _letters(state, tree):
    matrix, entries = state
    rows = rows_of_letters(matrix, pairs_of_counts(counts_of_tree(matrix, tree, sums_of(entries))))
    return "\n".join(rows) if rows else "nothing"


def _yes_or_no(truth):
    return "yes" if truth else "no"


def _same(total, other):
    return _yes_or_no(total == other)


def _contains(total, other):
    return _yes_or_no(contains_sum(total, other))


def _homs(total, other):
    return str(homs_of_sums(total, other))


ALONE = ("undo", "redo", "show")
CHANGES = {
    "type": _change_type, "let": _change_let, "forget": _change_forget, "restrict": _change_restrict,
    "undo": _change_undo, "redo": _change_redo, "show": _show,
}
QUESTIONS = {
    "dimension": _dimension, "invariants": _invariants, "decompose": _decompose, "is": _is, "letters": _letters,
}
COMPARISONS = {"same": _same, "contains": _contains, "homs": _homs}
