import unittest

from tests import small, trees
from tests.matrices import HUGE, reordered
from tests.small import A_ONE, A_PAIR, A_TWO, B_TWO, G_TWO
from tests.trees import ADJOINT
from weylweights.errors import BadText, InvalidTable, NoPicture, TooMany
from weylweights.expressions import character
from weylweights.pictures import letters, picture, read_picture

B_TURNED, G_TURNED = reordered(B_TWO, (1, 0)), reordered(G_TWO, (1, 0))
# the spots of the weights (1, 0) and (0, 1)
SPOTS = {A_PAIR: ((20, 0), (0, 20)), A_TWO: ((26, 15), (0, 30)), B_TWO: ((40, 0), (20, 20)), G_TWO: ((15, 26), (0, 52)),
         B_TURNED: ((20, 20), (40, 0)), G_TURNED: ((0, 52), (15, 26)),}
HEAD = '<svg xmlns="http://www.w3.org/2000/svg" viewBox="-300 -300 600 600">'
FOOT = "</svg>"
THREE = ("irreducible", (1, 0))
OTHER_RANKS = [A_ONE, *[matrix for matrix in small.ALL_SMALL if len(matrix) > 2][::9]]


def lines_of(matrix, table):
    (a, b), (c, d) = SPOTS[matrix]
    return [HEAD, *[f'<text x="{i * a + j * c}" y="{-(i * b + j * d)}">{count}</text>' for (i, j), count in table],
            FOOT]


def tables(matrix):
    found = [trees.table(matrix, tree) for tree in trees.some(matrix, 200)[::9]]
    return [*found, (), (((0, 0), 1000),), (((0, 0), -1),), (((3, -7), 12),), (((0, 0), 1), ((0, 1), -1)),
            (((-HUGE, HUGE), -999),), (((-5, 2), 9), ((-5, 3), 10), ((0, -HUGE), -1), ((2, 0), 3)),
            tuple(((a, b), a - 2 * b or 5) for a in range(-3, 4) for b in range(-3, 4)),]


class Letters(unittest.TestCase):
    def test_of_the_document(self):
        self.assertEqual(letters(A_TWO, character(A_TWO, ADJOINT)), ('.1...', '1..1.', '..2..', '.1..1', '...1.'))

    def test_by_hand(self):
        for matrix in SPOTS:
            for table, rows in (((), ()), ((((0, 0), 1),), ("1",)), ((((5, -7), 9),), ("9",)),
                                ((((5, -7), 10),), ("#",)), ((((5, -7), 1000),), ("#",)), ((((5, -7), -1),), ("-",)),
                                ((((5, -7), -12),), ("-",)), ((((0, 0), 2), ((0, 3), -4)), ("-", ".", ".", "2")),
                                ((((-1, 0), 3), ((2, 0), 11)), ("3..#",)),
                                ((((-1, 5), 1), ((0, 4), 2), ((1, 3), 3)), ("1..", ".2.", "..3")),
                                (tuple(((k, 0), k) for k in range(1, 13)), ("123456789###",))):
                self.assertEqual(letters(matrix, table), rows)

    def test_each_sign_at_its_place(self):
        for matrix in SPOTS:
            for tree in trees.some(matrix, 300)[::5]:
                counts = trees.character(matrix, tree)
                rows = letters(matrix, trees.table(matrix, tree))
                if not counts:
                    self.assertEqual(rows, ())
                    continue
                least, greatest = min(a for a, _ in counts), max(b for _, b in counts)
                self.assertEqual(len(rows), greatest - min(b for _, b in counts) + 1)
                for down, row in enumerate(rows):
                    self.assertEqual(len(row), max(a for a, _ in counts) - least + 1)
                    for right, sign in enumerate(row):
                        count = counts.get((least + right, greatest - down), 0)
                        self.assertEqual(sign,
                                         "-" if count < 0 else "." if count == 0 else str(count) if count < 10 else "#")

    def test_199_and_200_apart(self):
        for matrix in SPOTS:
            for start in (0, -100, -HUGE, HUGE):
                for step in ((1, 0), (0, 1), (1, 1)):
                    for far, truth in ((199, True), (200, False), (201, False), (HUGE, False)):
                        weights = [(start, start), (start + far * step[0], start + far * step[1])]
                        table = tuple((weight, 1) for weight in weights)
                        if truth:
                            rows = letters(matrix, table)
                            self.assertEqual((len(rows), len(rows[0])), (1 + far * step[1], 1 + far * step[0]))
                        else:
                            with self.assertRaises(NoPicture):
                                letters(matrix, table)
        with self.assertRaises(NoPicture):
            letters(A_TWO, (((0, 100), 1), ((1, -100), 1)))
        self.assertEqual(letters(A_TWO, (((0, 100), 1), ((1, -99), 1))), ("1.", *[".."] * 198, ".1"))

    def test_other_ranks(self):
        for matrix in OTHER_RANKS:
            for table in ((), ((small.zero(matrix), 1),)):
                for function in (letters, picture):
                    with self.assertRaises(NoPicture):
                        function(matrix, table)
            with self.assertRaises(InvalidTable):
                letters(matrix, None)
            with self.assertRaises(TooMany):
                picture(matrix, ((small.zero(matrix), 1001),))


class Pictures(unittest.TestCase):
    def test_of_the_document(self):
        table = character(A_TWO, THREE)
        self.assertEqual(read_picture(A_TWO, picture(A_TWO, table)), table)
        self.assertEqual(picture(A_TWO, table).split("\n")[:2], [HEAD, '<text x="-26" y="-15">1</text>'])

    def test_each_line(self):
        for matrix in SPOTS:
            for table in tables(matrix):
                self.assertEqual(picture(matrix, table), "\n".join(lines_of(matrix, table)))

    def test_read_again(self):
        for matrix in SPOTS:
            texts = {}
            for table in tables(matrix):
                text = picture(matrix, table)
                self.assertEqual(read_picture(matrix, text), table)
                self.assertEqual(texts.setdefault(text, table), table)

    def test_unlike_weights_have_unlike_spots(self):
        for matrix in SPOTS:
            found = {picture(matrix, (((a, b), 1),)) for a in range(-9, 10) for b in range(-9, 10)}
            self.assertEqual(len(found), 19 ** 2)

    def test_fundamental_weights(self):
        for matrix, ((a, b), (c, d)) in SPOTS.items():
            self.assertIn(f'<text x="{a}" y="{-b}">1</text>', picture(matrix, (((1, 0), 1),)))
            self.assertIn(f'<text x="{c}" y="{-d}">1</text>', picture(matrix, (((0, 1), 1),)))
        self.assertNotIn("-0", picture(A_TWO, (((0, 0), 1), ((1, 0), 1))))


class Reading(unittest.TestCase):
    def wrong(self, matrix, lines, spot):
        text = "\n".join(lines)
        with self.subTest(text=text), self.assertRaises(BadText) as caught:
            read_picture(matrix, text)
        self.assertEqual(caught.exception.spot, spot)

    def test_lines_left_out_doubled_exchanged_and_put_behind(self):
        for matrix in SPOTS:
            table = (((-1, 0), 2), ((-1, 1), -1), ((0, 0), 3), ((1, -1), 1))
            lines = lines_of(matrix, table)
            for at in range(len(lines)):
                less = lines[:at] + lines[at + 1:]
                if 0 < at < len(lines) - 1:
                    self.assertEqual(read_picture(matrix, "\n".join(less)), table[:at - 1] + table[at:])
                    # a doubled one stands behind itself
                    self.wrong(matrix, lines[:at] + lines[at:at + 1] + lines[at:], at + 1)
                else:
                    self.wrong(matrix, less, at)
                self.wrong(matrix, lines[:at], at if at else 0)
                self.wrong(matrix, lines[:at] + [""] + lines[at:], at)
                for other in range(at):
                    exchanged = list(lines)
                    exchanged[at], exchanged[other] = exchanged[other], exchanged[at]
                    first = other if other == 0 else other + 1
                    self.wrong(matrix, exchanged, first)
            for more in ("", FOOT, lines[1], lines[-2], HEAD, "x"):
                self.wrong(matrix, lines + [more], len(lines))
                self.wrong(matrix, lines + [more, FOOT], len(lines))
            self.wrong(matrix, [HEAD] + lines, 1)
            self.wrong(matrix, lines + lines, len(lines))

    def test_spoilt_lines(self):
        matrix, table = A_TWO, (((-1, 0), 2), ((0, 1), -12), ((1, 1), 3))
        lines = lines_of(matrix, table)
        for at, line in enumerate(lines):
            for place in range(len(line) + 1):
                for sign in ("", *' 0-7x"<\u0661'):
                    for bent in (line[:place] + sign + line[place:], line[:place] + sign + line[place + 1:]):
                        changed = lines[:at] + [bent] + lines[at + 1:]
                        again = _as_told(changed)
                        if again is None:
                            self.wrong(matrix, changed, _first_wrong(changed))
                        else:
                            self.assertEqual(read_picture(matrix, "\n".join(changed)), again)

    def test_numbers_that_are_written_in_other_ways(self):
        for x, y, count in (("026", "-15", "1"), ("+26", "-15", "1"), ("26", "-15", "01"), ("26", "-15", "+1"),
                            ("26", "-15", "-0"), ("26", "-15", "0"), ("26", "-15", ""), ("26", "", "1"),
                            ("", "-15", "1"), ("26 ", "-15", "1"), ("26", "--15", "1"), ("2_6", "-15", "1"),
                            ("26", "-15", "1_0"), ("26", "-15.0", "1"), ("2\u0666", "-15", "1"), ("26", "-15", "1e2"),
                            ("25", "-15", "1"), ("26", "-14", "1"), ("13", "0", "1"), ("0", "-15", "1"),
                            ("52", "-15", "1"), ("-", "-15", "1"), ("-0", "-30", "1"), ("0", "-0", "1"),
                            ("26", "-15", "-")):
            line = f'<text x="{x}" y="{y}">{count}</text>'
            self.wrong(A_TWO, [HEAD, line, FOOT], 1)
        self.assertEqual(read_picture(A_TWO, "\n".join([HEAD, '<text x="26" y="-15">1</text>', FOOT])), (((1, 0), 1),))
        self.assertEqual(read_picture(A_TWO, "\n".join([HEAD, '<text x="26" y="15">1</text>', FOOT])), (((1, -1), 1),))

    def test_other_lines(self):
        line = '<text x="26" y="-15">1</text>'
        for lines, spot in (([""], 0), ([HEAD], 1), ([FOOT], 0), ([HEAD, ""], 1), ([HEAD + " "], 0),
                            ([" " + HEAD, FOOT], 0), ([HEAD, FOOT, ""], 2), ([HEAD, line], 2), ([HEAD, line, line], 2),
                            ([HEAD, line, " " + FOOT], 2), ([HEAD, line, FOOT + " "], 2), ([HEAD, " " + line, FOOT], 1),
                            ([HEAD, line + "\r", FOOT], 1), ([HEAD + "\r", FOOT], 0), ([HEAD, line + line, FOOT], 1),
                            ([HEAD + FOOT], 0), ([HEAD, line + FOOT], 1), ([line, FOOT], 0), ([HEAD, FOOT, FOOT], 2),
                            ([HEAD, FOOT, HEAD, FOOT], 2), ([HEAD, "<text>", FOOT], 1), ([HEAD, "</text>", FOOT], 1)):
            self.wrong(A_TWO, lines, spot)
        self.assertEqual(read_picture(A_TWO, HEAD + "\n" + FOOT), ())

    def test_sizes(self):
        for matrix in SPOTS:
            table = (((0, 0), -999), ((0, 1), 1), ((0, 2), -1), ((0, 3), 1))
            self.assertEqual(read_picture(matrix, "\n".join(lines_of(matrix, table[:2]))), table[:2])
            self.wrong(matrix, lines_of(matrix, table[:3]), 3)
            self.wrong(matrix, lines_of(matrix, table), 3)
            self.wrong(matrix, lines_of(matrix, (((0, 0), 1001),)), 1)
            self.wrong(matrix, lines_of(matrix, (((0, 0), HUGE),)), 1)
            self.wrong(matrix, lines_of(matrix, (((0, 0), -1000), ((0, 1), 1)))[:-1], 2)

    def test_of_another_matrix(self):
        self.wrong(A_TWO, lines_of(B_TWO, (((0, 1), 1),)), 1)
        self.assertEqual(read_picture(B_TURNED, "\n".join(lines_of(B_TWO, (((1, 2), 3),)))), (((2, 1), 3),))
        self.assertEqual(read_picture(G_TURNED, "\n".join(lines_of(G_TWO, (((-1, 2), -3),)))), (((2, -1), -3),))

    def test_no_string_then_the_rank_then_the_lines(self):
        for matrix in (*SPOTS, *OTHER_RANKS):
            for value in (None, 0, b"", (), [HEAD, FOOT]):
                with self.assertRaises(BadText) as caught:
                    read_picture(matrix, value)
                self.assertIsNone(caught.exception.spot)
        for matrix in OTHER_RANKS:
            for text in ("", HEAD, HEAD + "\n" + FOOT):
                with self.assertRaises(NoPicture):
                    read_picture(matrix, text)


def _lines_by_spot(matrix):
    """The weights near the middle by what stands in their lines ahead of the count."""
    return {lines_of(matrix, (((a, b), 1),))[1].removesuffix("1</text>"): (a, b) for a in range(-60,
                                                                                                61) for b in range(-60,
                                                                                                                   61)}


WEIGHTS = _lines_by_spot(A_TWO)
COUNTS = {f"{count}</text>": count for count in range(-1000, 1001) if count}


def _pair(line):
    """The pair whose line this is, of those near the middle; None."""
    for at in range(len(line)):
        if line[:at] in WEIGHTS and line[at:] in COUNTS:
            return WEIGHTS[line[:at]], COUNTS[line[at:]]
    return None


def _first_wrong(lines):
    if lines[0] != HEAD:
        return 0
    last = None
    for at, line in enumerate(lines[1:], start=1):
        if line == FOOT:
            return at + 1 if at + 1 < len(lines) else None
        pair = _pair(line)
        if pair is None or (last is not None and pair[0] <= last):
            return at
        last = pair[0]
    return len(lines)


def _as_told(lines):
    if _first_wrong(lines) is not None:
        return None
    return tuple(_pair(line) for line in lines[1:-1])


if __name__ == "__main__":
    unittest.main()
