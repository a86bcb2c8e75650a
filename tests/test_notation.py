"""Promises 1, 26 and 27: pictures, texts of chains, and texts of drawings."""

import unittest

import oracle
from ledlines.drawings import Drawing
from ledlines.errors import InvalidDrawing, InvalidHalf, InvalidText, UnknownPiece
from ledlines.notation import chain_text, format_drawing, parse_drawing, picture
from samples import HALVES, samples

ANGLE = Drawing(((0, 0, 12, 0), (4, 0, 4, 8)))
SIX = Drawing(((0, 0, 60, 47), (60, 3, 5, 60), (33, 0, 20, 60), (0, 31, 60, 30), (60, 47, 0, 41), (7, 0, 53, 58)))
NOTHING = Drawing(())
LAST_NUMBERS = ((1, 30), (2, 15), (3, 10), (4, 8), (5, 6), (8, 4), (15, 2), (20, 2), (21, 1), (30, 1))
WRONG_HALVES = (0, 31, -1, -30, 60, True, False)
WRONG_INDEXES = (-1, 2, 6, 60, True, False)
WRONG_NUMBERS = ("61", "99", "100", "1000", "-1", "-0", "+1", "00", "01", "060", "", "x", "1.0", "1e1", "0x1", "\t1",
                 "1\r", "\u0661", "\u00b2", "1_0", "piece", "True", "9" * 5000)
WRONG_FIRST_WORDS = ("", "Piece", "PIECE", "pieces", "piec", "0", "\tpiece", "piece\t0", "line", "piece\r")


class PictureTest(unittest.TestCase):
    def test_signs(self):
        self.assertEqual(picture(Drawing(((0, 0, 60, 0),)), 15), "...\n...\n#+#")
        self.assertEqual(picture(drawing=Drawing(((0, 0, 60, 30),)), half=15), "...\n.+#\n#+.")

    def test_the_greatest_number_on_top(self):
        self.assertEqual(picture(Drawing(((0, 60, 0, 20),)), 15), "#..\n#..\n...")
        self.assertEqual(picture(Drawing(((60, 60, 20, 60),)), 15), ".##\n...\n...")

    def test_a_whole_board(self):
        expected = ["......."] * 4 + ["..#....", ".+.....", "#+#...."]
        self.assertEqual(picture(Drawing(((0, 0, 20, 0), (20, 20, 0, 0))), 5).split("\n"), expected)

    def test_sizes(self):
        for half, last in LAST_NUMBERS:
            self.assertEqual(picture(NOTHING, half), "\n".join(["." * (last + 1)] * (last + 1)))

    def test_corners(self):
        for half, last in LAST_NUMBERS[:5]:
            rows = picture(Drawing(((0, 0, 60, 0), (0, 60, 60, 60))), half).split("\n")
            self.assertEqual((rows[0], rows[-1]), ("#" + "+" * (last - 1) + "#",) * 2)

    def test_all_cells_hot(self):
        self.assertEqual(picture(Drawing(((0, 0, 60, 0), (60, 60, 0, 60))), 30), "##\n##")

    def test_samples(self):
        for pieces in samples() + [SIX.pieces]:
            for half in HALVES:
                signs = dict.fromkeys(oracle.board(half), ".")
                signs |= dict.fromkeys(oracle.touched(pieces, half), "+")
                signs |= dict.fromkeys(oracle.reasons(pieces, half), "#")
                rows = picture(Drawing(pieces), half).split("\n")[::-1]
                found = {(i, j): sign for j, row in enumerate(rows) for i, sign in enumerate(row)}
                self.assertEqual(found, signs, (pieces, half))

    def test_wrong_halves(self):
        for half in WRONG_HALVES:
            for drawing in (ANGLE, NOTHING):
                with self.assertRaises(InvalidHalf):
                    picture(drawing, half)


class ChainTextTest(unittest.TestCase):
    def test_cells(self):
        self.assertEqual(chain_text(Drawing(((0, 0, 60, 0),)), 15, 0), "(0,0)-(2,0)")
        self.assertEqual(chain_text(drawing=ANGLE, half=2, piece=0), "(0,0)-(1,0)-(3,0)")
        self.assertEqual(chain_text(ANGLE, 2, 1), "(1,0)-(1,2)")

    def test_one_cell(self):
        self.assertEqual(chain_text(ANGLE, 30, 0), "(0,0)")

    def test_numbers_of_two_digits(self):
        self.assertEqual(chain_text(Drawing(((60, 60, 59, 0),)), 1, 0), "(30,30)-(30,0)")

    def test_samples(self):
        for pieces in samples():
            for half in HALVES:
                for index, row in enumerate(oracle.chains(pieces, half)):
                    expected = "-".join("(%d,%d)" % cell for cell in row)
                    self.assertEqual(chain_text(Drawing(pieces), half, index), expected, (pieces, half, index))

    def test_unknown_pieces(self):
        for index in WRONG_INDEXES:
            with self.assertRaises(UnknownPiece):
                chain_text(ANGLE, 2, index)
        with self.assertRaises(UnknownPiece):
            chain_text(NOTHING, 2, 0)

    def test_wrong_halves_come_first(self):
        for half in WRONG_HALVES:
            for index in (0,) + WRONG_INDEXES:
                with self.assertRaises(InvalidHalf):
                    chain_text(ANGLE, half, index)


class FormatTest(unittest.TestCase):
    def test_rows(self):
        self.assertEqual(format_drawing(Drawing(((0, 0, 60, 0),))), "piece 0 0 60 0")
        self.assertEqual(format_drawing(drawing=ANGLE), "piece 0 0 12 0\npiece 4 0 4 8")

    def test_no_piece(self):
        self.assertEqual(format_drawing(NOTHING), "")


class ParseTest(unittest.TestCase):
    def wrong(self, text, row, word):
        with self.assertRaises(InvalidText) as caught:
            parse_drawing(text)
        self.assertEqual((caught.exception.row, caught.exception.word), (row, word), repr(text)[:100])

    def test_rows(self):
        self.assertEqual(parse_drawing("piece 0 0 60 0"), Drawing(((0, 0, 60, 0),)))
        self.assertEqual(parse_drawing(text="piece 0 0 12 0\npiece 4 0 4 8"), ANGLE)

    def test_the_empty_text(self):
        self.assertEqual(parse_drawing(""), NOTHING)

    def test_a_drawing_comes_back(self):
        for pieces in samples() + [SIX.pieces, ANGLE.pieces]:
            drawing = Drawing(pieces)
            self.assertEqual(parse_drawing(format_drawing(drawing)), drawing)
            self.assertEqual(parse_drawing(format_drawing(drawing)).pieces, pieces)

    def test_all_numbers(self):
        for number in range(61):
            for piece in ((number, 5, 3, 60), (60, number, 5, 3), (3, 60, number, 5), (5, 3, 60, number)):
                self.assertEqual(parse_drawing("piece " + " ".join(map(str, piece))).pieces, (piece,))

    def test_wrong_numbers(self):
        for number in WRONG_NUMBERS:
            for at in range(1, 5):
                words = ["piece", "0", "1", "2", "3"]
                words[at] = number
                self.wrong(" ".join(words), 0, at)
                self.wrong("piece 9 9 8 8\n" + " ".join(words), 1, at)
                self.wrong(" ".join(words) + "\npiece 9 9 8 8\nx", 0, at)

    def test_wrong_first_words(self):
        for word in WRONG_FIRST_WORDS:
            self.wrong(word + " 0 1 2 3", 0, 0)
            self.wrong("piece 0 0 1 1\n" + word + " 0 1 2 3", 1, 0)

    def test_missing_words(self):
        row = "piece 0 1 2 3".split(" ")
        for many in range(1, 5):
            self.wrong(" ".join(row[:many]), 0, many)
            self.wrong("piece 9 9 8 8\n" + " ".join(row[:many]) + "\npiece 1 1 2 2", 1, many)

    def test_empty_rows(self):
        self.wrong("\n", 0, 0)
        self.wrong("piece 0 0 1 1\n", 1, 0)
        self.wrong("\npiece 0 0 1 1", 0, 0)
        self.wrong("piece 0 0 1 1\n\npiece 5 5 1 9", 1, 0)
        self.wrong(" ", 0, 0)

    def test_superfluous_words(self):
        for more in (" 4", " 61", " x", " piece", " ", " 4 5", " 4 x"):
            self.wrong("piece 0 1 2 3" + more, 0, 5)
            self.wrong("piece 9 9 8 8\npiece 0 1 2 3" + more, 1, 5)

    def test_needless_blanks(self):
        self.wrong(" piece 0 1 2 3", 0, 0)
        self.wrong("piece  0 1 2 3", 0, 1)
        self.wrong("piece 0 1  2 3", 0, 3)
        self.wrong("piece 0 1 2 3 ", 0, 5)
        self.wrong("piece\t0\t1\t2\t3", 0, 0)

    def test_other_line_breaks(self):
        self.wrong("piece 0 1 2 3\r\npiece 9 9 8 8", 0, 4)
        self.wrong("piece 0 1 2 3\rpiece 9 9 8 8", 0, 4)
        self.wrong("piece 0 1 2 3\x0bpiece 9 9 8 8", 0, 4)

    def test_the_first_wrong_word(self):
        self.wrong("piece 0 x 2 61", 0, 2)
        self.wrong("Piece 0 x", 0, 0)
        self.wrong("piece 0 1 2\nx", 0, 4)
        self.wrong("piece 0 1 x\nx", 0, 3)
        self.wrong("piece 0 1 2 3\npiece 0 1 2 3 4\npiece", 1, 5)

    def test_six_rows_and_seven(self):
        rows = [f"piece 0 {9 * y} 60 {9 * y}" for y in range(6)]
        self.assertEqual(len(parse_drawing("\n".join(rows))), 6)
        for more in ("piece 0 60 60 60", "piece 0 0 60 0", "x", "", "piece 0", "piece 0 61 0 0 5"):
            self.wrong("\n".join(rows + [more]), 6, 0)
            self.wrong("\n".join(rows + [more, "x"]), 6, 0)
        self.wrong("\n".join(rows[:5] + ["piece 0 x 0 9", "piece 0 60 60 60"]), 5, 2)

    def test_no_drawing(self):
        for text, index in (("piece 3 3 3 3", 0), ("piece 0 0 4 4\npiece 2 2 6 6", 1),
                            ("piece 0 0 4 4\npiece 9 9 9 8\npiece 4 4 0 0\npiece 1 1 1 1", 2)):
            with self.assertRaises(InvalidDrawing) as caught:
                parse_drawing(text)
            self.assertEqual(caught.exception.index, index)

    def test_a_wrong_text_comes_before_no_drawing(self):
        self.wrong("piece 3 3 3 3\npiece 1 1 2 x", 1, 4)
        self.wrong("piece 0 0 4 4\npiece 2 2 6 6\npiece", 2, 1)
        self.wrong("\n".join(["piece 3 3 3 3"] * 7), 6, 0)


class KindsTest(unittest.TestCase):
    def test_kinds_of_results(self):
        found = [picture(ANGLE, 2), chain_text(ANGLE, 2, 0), format_drawing(ANGLE), parse_drawing("")]
        self.assertEqual([type(value) for value in found], [str, str, str, Drawing])
        piece = parse_drawing("piece 0 0 1 2").pieces[0]
        self.assertEqual([type(value) for value in (piece, *piece)], [tuple] + [int] * 4)

    def test_functions_are_defined_in_the_file(self):
        for function in (picture, chain_text, format_drawing, parse_drawing):
            self.assertEqual(function.__module__, "ledlines.notation")


if __name__ == "__main__":
    unittest.main()
