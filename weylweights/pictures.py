"""Tables of rank 2 as letters and as pictures, and the reading of pictures."""

from weylweights.errors import BadText, NoPicture
from weylweights.reader import is_row_of_figures
from weylweights.tables import MOST_SIZE, check_table, counts_of_pairs
from weylweights.types import type_of
from weylweights.weights import check_small

RANK = 2
WIDEST = 199
# the spots of the fundamental weights, in Bourbaki's order of the nodes
SPOTS = {
    "A1 A1": ((20, 0), (0, 20)), "A2": ((26, 15), (0, 30)), "B2": ((40, 0), (20, 20)), "G2": ((15, 26), (0, 52)),
}
HEAD = '<svg xmlns="http://www.w3.org/2000/svg" viewBox="-300 -300 600 600">'
FOOT = "</svg>"
AHEAD_OF_X = '<text x="'
AHEAD_OF_Y = '" y="'
AHEAD_OF_COUNT = '">'
BEHIND_COUNT = "</text>"


def letters(matrix, table):
    """For each second number of weights, from the greatest one down, a text of a sign for each first number."""
    check_small(matrix)
    check_table(matrix, table)
    return rows_of_letters(matrix, table)


def rows_of_letters(matrix, table):
    if len(matrix) != RANK:
        raise NoPicture()
    if len(table) == 0:
        return ()
    columns = _from_least_to_greatest([weight[0] for weight, _ in table])
    rows = _from_least_to_greatest([weight[1] for weight, _ in table])
    counts = counts_of_pairs(table)
    return tuple(["".join([_letter(counts.get((a, b), 0)) for a in columns]) for b in reversed(rows)])


def _from_least_to_greatest(numbers):
    if max(numbers) - min(numbers) > WIDEST:
        raise NoPicture()
    return list(range(min(numbers), max(numbers) + 1))


def _letter(count):
    if count == 0:
        return "."
    if count < 0:
        return "-"
    return str(count) if count < 10 else "#"


def picture(matrix, table):
    """The picture of the table, a text of lines."""
    check_small(matrix)
    check_table(matrix, table)
    axes = _axes(matrix)
    lines = [_line_of(axes, weight, count) for weight, count in table]
    return "\n".join([HEAD] + lines + [FOOT])


def _axes(matrix):
    """The spots of the fundamental weights of the matrix."""
    if len(matrix) != RANK:
        raise NoPicture()
    pairs = type_of(matrix)
    name = " ".join([part for part, _ in pairs])
    nodes = [node for _, order in pairs for node in order]
    return [SPOTS[name][nodes.index(node)] for node in range(RANK)]


def _line_of(axes, weight, count):
    x, y = [weight[0] * first + weight[1] * second for first, second in zip(axes[0], axes[1])]
    return f"{AHEAD_OF_X}{x}{AHEAD_OF_Y}{-y}{AHEAD_OF_COUNT}{count}{BEHIND_COUNT}"


def read_picture(matrix, text):
    """The table of which the text is the picture."""
    check_small(matrix)
    if not isinstance(text, str):
        raise BadText(None)
    axes = _axes(matrix)
    lines = text.split("\n")
    if lines[0] != HEAD:
        raise BadText(0)
    table = _table_of_lines(axes, lines)
    # just one line, the foot, is due behind the head and the lines of the table
    if len(lines) != len(table) + 2:
        raise BadText(min(len(table) + 2, len(lines)))
    return table


def _table_of_lines(axes, lines):
    """The table of the lines behind the first one, up to the foot or the end."""
    pairs = []
    size = 0
    at = 1
    while at < len(lines) and lines[at] != FOOT:
        pair = _pair_of_line(axes, lines[at])
        if pair is None or (len(pairs) > 0 and pairs[-1][0] >= pair[0]):
            raise BadText(at)
        size += abs(pair[1])
        if size > MOST_SIZE:
            raise BadText(at)
        pairs.append(pair)
        at += 1
    return tuple(pairs)


def _pair_of_line(axes, line):
    """The weight and the count that the line tells; None, if it is the line of none."""
    texts = _number_texts(line)
    if not all([is_row_of_figures(text.removeprefix("-")) for text in texts]):
        return None
    x, y, count = [int(text) for text in texts]
    weight = _weight_near(axes, x, -y)
    # the place may be no spot, and the numbers may be written in another way
    if count == 0 or _line_of(axes, weight, count) != line:
        return None
    return weight, count


def _number_texts(line):
    """The three texts at the places of the numbers of a line of a picture; an empty one for what is missing."""
    x, _, behind_x = line.removeprefix(AHEAD_OF_X).removesuffix(BEHIND_COUNT).partition(AHEAD_OF_Y)
    y, _, count = behind_x.partition(AHEAD_OF_COUNT)
    return [x, y, count]


def _weight_near(axes, x, y):
    """The weight whose spot this is; some weight, if it is no spot."""
    (a, b), (c, d) = axes
    determinant = a * d - b * c
    return (x * d - y * c) // determinant, (a * y - b * x) // determinant
