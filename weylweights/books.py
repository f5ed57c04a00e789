"""Books of sums by names: deeds on their states, undone and done again."""

from weylweights.checks import is_ascending, is_nodes
from weylweights.errors import InvalidBook, InvalidDeed, NothingToRedo, NothingToUndo
from weylweights.expressions import is_tree_that_fits, sum_of_tree
from weylweights.levis import levi_rows, restricted_sum
from weylweights.reader import is_name
from weylweights.roots import positive_coroots
from weylweights.tables import MOST_SIZE, is_sum_of_rank, size_by
from weylweights.weights import check_small, is_small

MOST_ENTRIES = 20
MOST_STATES = 20
# how many elements the deeds have
DEEDS = {"define": 3, "forget": 2, "restrict": 2}


def is_book(value):
    """Whether the value is a triple of a state, of earlier and of later states."""
    if not isinstance(value, tuple) or len(value) != 3:
        return False
    return _is_state(value[0]) and _are_states(value[1]) and _are_states(value[2])


def _are_states(value):
    if not isinstance(value, tuple) or len(value) > MOST_STATES:
        return False
    return all([_is_state(state) for state in value])


def _is_state(value):
    if not isinstance(value, tuple) or len(value) != 2 or not is_small(value[0]):
        return False
    matrix, entries = value
    if not isinstance(entries, tuple) or len(entries) > MOST_ENTRIES:
        return False
    coroots = positive_coroots(matrix)
    return all([_is_entry(coroots, entry) for entry in entries]) and is_ascending([name for name, _ in entries])


def _is_entry(coroots, value):
    if not isinstance(value, tuple) or len(value) != 2 or not is_name(value[0]):
        return False
    return is_sum_of_rank(value[1], len(coroots[0])) and size_by(coroots, value[1]) <= MOST_SIZE


def check_book(book):
    if not is_book(book):
        raise InvalidBook(book)


def fresh_book(matrix):
    """The book of the matrix without entries, with nothing to undo and nothing to do again."""
    check_small(matrix)
    return fresh(matrix)


def fresh(matrix):
    return (matrix, ()), (), ()


def does_fit(book, value):
    """Whether the value is a deed that fits the state of the book."""
    check_book(book)
    return _fits(book[0], value)


def _fits(state, value):
    if not isinstance(value, tuple) or len(value) == 0 or not isinstance(value[0], str):
        return False
    if value[0] not in DEEDS or len(value) != DEEDS[value[0]]:
        return False
    matrix, entries = state
    sums = sums_of(entries)
    if value[0] == "restrict":
        return is_nodes(value[1], len(matrix))
    if not is_name(value[1]):
        return False
    if value[0] == "forget":
        return value[1] in sums
    return (value[1] in sums or len(sums) < MOST_ENTRIES) and is_tree_that_fits(matrix, value[2], sums)


def sums_of(entries):
    """The sums of the entries by their names."""
    return {name: total for name, total in entries}


def changed(book, deed):
    """The book with the deed done."""
    check_book(book)
    return book_after(book, deed)


def book_after(book, deed):
    """As changed, of what is known to be a book."""
    state, earlier, _ = book
    if not _fits(state, deed):
        raise InvalidDeed(deed)
    return _state_after(state, deed), (earlier + (state,))[-MOST_STATES:], ()


def _state_after(state, deed):
    matrix, entries = state
    if deed[0] == "restrict":
        restricted = [(name, restricted_sum(matrix, deed[1], total)) for name, total in entries]
        return levi_rows(matrix, deed[1]), tuple(restricted)
    sums = sums_of(entries)
    if deed[0] == "forget":
        del sums[deed[1]]
    else:
        sums[deed[1]] = sum_of_tree(matrix, deed[2], sums)
    return matrix, tuple(sorted(sums.items()))


def undone(book):
    """The book as it was ahead of the last change that stands."""
    check_book(book)
    return book_before(book)


def book_before(book):
    """As undone, of what is known to be a book."""
    state, earlier, later = book
    if len(earlier) == 0:
        raise NothingToUndo()
    return earlier[-1], earlier[:-1], ((state,) + later)[:MOST_STATES]


def done_again(book):
    """The book with the change that was undone last."""
    check_book(book)
    return book_again(book)


def book_again(book):
    """As done_again, of what is known to be a book."""
    state, earlier, later = book
    if len(later) == 0:
        raise NothingToRedo()
    return later[0], (earlier + (state,))[-MOST_STATES:], later[1:]
