"""Promises 1 and 4 to 6: hot cells, chains and rows."""

import unittest

import oracle
from ledlines.cells import chain, chains, hot_cells, reasons, row_of
from ledlines.drawings import Drawing, meeting
from ledlines.errors import InvalidHalf, UnknownPiece

CROSS = Drawing(((0, 0, 8, 4), (0, 4, 8, 0)))
WEB = Drawing(((0, 0, 60, 47), (60, 3, 5, 60), (33, 0, 20, 60), (0, 31, 60, 30), (60, 47, 0, 41), (7, 0, 53, 58)))
NOTHING = Drawing(())
WRONG_HALVES = (0, 31, -1, -30, 60)


def row_alone(piece, half):
    """Return the row of cells of the only piece of a drawing."""
    return row_of(Drawing((piece,)), half, 0)


class HotCellsTest(unittest.TestCase):
    def test_ends_on_a_border(self):
        # The cell (1, 1) of the half 2 has its centre at (4, 4): 2 is just a half before it, 6 just one behind it.
        for value, number in ((0, 0), (1, 0), (2, 1), (3, 1), (4, 1), (5, 1), (6, 2), (9, 2), (10, 3)):
            with self.subTest(value=value):
                self.assertEqual(hot_cells(Drawing(((value, 60, 60, 60),)), 2), ((number, 15), (15, 15)))
                self.assertEqual(hot_cells(Drawing(((0, value, 60, 60),)), 2), ((0, number), (15, 15)))

    def test_ends_on_the_corners_of_a_cell(self):
        corners = Drawing(((2, 2, 60, 0), (6, 2, 60, 10), (2, 6, 2, 60), (6, 6, 60, 60)))
        found = reasons(corners, 2)
        self.assertEqual([found[1, 1], found[2, 1], found[1, 2], found[2, 2]],
                         [((0, 0),), ((1, 0),), ((2, 0),), ((3, 0),)])

    def test_a_meeting_beside_a_border(self):
        # They meet at (20 / 3, 3), (7, 3) and (22 / 3, 3), where 7 is a border of the half 7.
        for piece, number in (((6, 5, 7, 2), 0), ((6, 4, 8, 2), 1), ((6, 5, 8, 2), 1)):
            with self.subTest(piece=piece):
                level = Drawing(((0, 3, 60, 3), piece))
                self.assertIn((0, 1, 2), reasons(level, 7)[number, 0])
                upright = Drawing(((3, 0, 3, 60), (piece[1], piece[0], piece[3], piece[2])))
                self.assertIn((0, 1, 2), reasons(upright, 7)[0, number])

    def test_ascending_and_each_cell_once(self):
        self.assertEqual(hot_cells(CROSS, 2), ((0, 0), (0, 1), (1, 1), (2, 0), (2, 1)))
        self.assertEqual(hot_cells(CROSS, 4), ((0, 0), (0, 1), (1, 0), (1, 1)))
        self.assertEqual(hot_cells(CROSS, 9), ((0, 0),))
        self.assertEqual(hot_cells(drawing=CROSS, half=9), ((0, 0),))

    def test_cells_ascend_by_number_and_not_as_texts(self):
        self.assertEqual(hot_cells(Drawing(((20, 4, 4, 20),)), 1), ((2, 10), (10, 2)))

    def test_a_cell_through_which_a_piece_comes_is_not_hot(self):
        self.assertNotIn((1, 0), hot_cells(CROSS, 2))
        self.assertEqual(hot_cells(Drawing(((0, 0, 60, 0),)), 1), ((0, 0), (30, 0)))

    def test_halves_1_and_30(self):
        drawing = Drawing(((29, 0, 30, 60), (60, 29, 0, 30)))
        self.assertEqual(hot_cells(drawing, 30), ((0, 0), (0, 1), (1, 0), (1, 1)))
        self.assertEqual(hot_cells(drawing, 1), ((0, 15), (15, 0), (15, 15), (15, 30), (30, 15)))

    def test_no_piece(self):
        for half in (1, 30):
            self.assertEqual(hot_cells(NOTHING, half), ())

    def test_wrong_halves(self):
        for half in WRONG_HALVES:
            for drawing in (CROSS, NOTHING):
                with self.assertRaises(InvalidHalf):
                    hot_cells(drawing, half)


class ReasonsTest(unittest.TestCase):
    def test_all_reasons_of_a_cell_in_order(self):
        found = reasons(CROSS, 9)
        self.assertEqual(found, {(0, 0): ((0, 0), (0, 1), (0, 1, 2), (1, 0), (1, 1))})

    def test_which_end_is_which(self):
        self.assertEqual(reasons(Drawing(((8, 0, 0, 0),)), 2), {(0, 0): ((0, 1),), (2, 0): ((0, 0),)})

    def test_cells_in_order(self):
        drawing = Drawing(((60, 60, 50, 4), (4, 50, 4, 20), (4, 4, 20, 0)))
        self.assertEqual(list(reasons(drawing, 2)), [(1, 1), (1, 5), (1, 13), (5, 0), (13, 1), (15, 15)])

    def test_pieces_that_meet_in_an_end(self):
        drawing = Drawing(((0, 0, 8, 0), (8, 0, 8, 8), (16, 0, 8, 0)))
        self.assertEqual(reasons(drawing, 2)[2, 0], ((0, 1), (0, 1, 2), (0, 2, 2), (1, 0), (1, 2, 2), (2, 1)))

    def test_the_lesser_index_stands_first(self):
        found = reasons(Drawing(((20, 0, 20, 60), (0, 50, 60, 50), (0, 20, 60, 20))), 2)
        self.assertEqual(found[5, 5], ((0, 2, 2),))
        self.assertEqual(found[5, 13], ((0, 1, 2),))

    def test_hot_cells_are_the_keys(self):
        for half in range(1, 31):
            self.assertEqual(tuple(reasons(WEB, half)), hot_cells(WEB, half))

    def test_a_web_at_all_halves(self):
        for half in range(1, 31):
            with self.subTest(half=half):
                expected = oracle.reasons(WEB.pieces, half)
                self.assertEqual(reasons(WEB, half), expected)
                self.assertEqual(list(reasons(WEB, half)), list(expected))

    def test_no_piece(self):
        for half in (1, 30):
            self.assertEqual(reasons(NOTHING, half), {})

    def test_wrong_halves(self):
        for half in WRONG_HALVES:
            for drawing in (CROSS, NOTHING):
                with self.assertRaises(InvalidHalf):
                    reasons(drawing, half)

    def test_the_caller_may_change_the_dict(self):
        expected = {(0, 0): ((0, 0),), (2, 0): ((0, 1),)}
        drawing = Drawing(((0, 0, 8, 0),))
        reasons(drawing, 2).clear()
        self.assertEqual(reasons(drawing, 2), expected)
        self.assertEqual(hot_cells(drawing, 2), ((0, 0), (2, 0)))


class RowTest(unittest.TestCase):
    def test_in_one_cell(self):
        self.assertEqual(row_alone((0, 0, 1, 1), 2), ((0, 0),))
        self.assertEqual(row_alone((29, 29, 0, 0), 30), ((0, 0),))

    def test_level_and_upright(self):
        self.assertEqual(row_alone((0, 0, 5, 0), 1), ((0, 0), (1, 0), (2, 0), (3, 0)))
        self.assertEqual(row_alone((5, 0, 0, 0), 1), ((3, 0), (2, 0), (1, 0), (0, 0)))
        self.assertEqual(row_alone((0, 0, 0, 5), 1), ((0, 0), (0, 1), (0, 2), (0, 3)))
        self.assertEqual(row_alone((0, 5, 0, 0), 1), ((0, 3), (0, 2), (0, 1), (0, 0)))

    def test_an_end_on_a_border(self):
        self.assertEqual(row_alone((0, 0, 1, 0), 1), ((0, 0), (1, 0)))
        self.assertEqual(row_alone((1, 0, 0, 0), 1), ((1, 0), (0, 0)))
        self.assertEqual(row_alone((2, 0, 1, 0), 1), ((1, 0),))
        self.assertEqual(row_alone((1, 0, 2, 0), 1), ((1, 0),))

    def test_along_a_border(self):
        self.assertEqual(row_alone((1, 0, 1, 4), 1), ((1, 0), (1, 1), (1, 2)))
        self.assertEqual(row_alone((4, 1, 0, 1), 1), ((2, 1), (1, 1), (0, 1)))

    def test_rising_through_a_corner(self):
        self.assertEqual(row_alone((0, 0, 4, 4), 1), ((0, 0), (1, 1), (2, 2)))
        self.assertEqual(row_alone((4, 4, 0, 0), 1), ((2, 2), (1, 1), (0, 0)))

    def test_falling_through_a_corner(self):
        # The corner (1, 1) itself lies in the cell (1, 1), in which no other point of the piece lies.
        self.assertEqual(row_alone((0, 2, 2, 0), 1), ((0, 1), (1, 1), (1, 0)))
        self.assertEqual(row_alone((2, 0, 0, 2), 1), ((1, 0), (1, 1), (0, 1)))
        self.assertEqual(row_alone((0, 4, 4, 0), 1), ((0, 2), (1, 2), (1, 1), (2, 1), (2, 0)))

    def test_an_end_on_a_corner(self):
        self.assertEqual(row_alone((0, 0, 1, 1), 1), ((0, 0), (1, 1)))
        self.assertEqual(row_alone((1, 1, 0, 0), 1), ((1, 1), (0, 0)))
        self.assertEqual(row_alone((0, 2, 1, 1), 1), ((0, 1), (1, 1)))
        self.assertEqual(row_alone((1, 1, 2, 0), 1), ((1, 1), (1, 0)))
        self.assertEqual(row_alone((1, 1, 0, 1), 1), ((1, 1), (0, 1)))

    def test_steep_and_flat(self):
        self.assertEqual(row_alone((0, 0, 8, 4), 2), ((0, 0), (1, 0), (1, 1), (2, 1)))
        self.assertEqual(row_alone((4, 8, 0, 0), 2), ((1, 2), (1, 1), (0, 1), (0, 0)))
        self.assertEqual(row_alone((0, 8, 4, 0), 2), ((0, 2), (0, 1), (1, 1), (1, 0)))

    def test_a_corner_of_a_flat_piece(self):
        # It comes through the corner (3, 1).
        self.assertEqual(row_alone((1, 0, 5, 2), 1), ((1, 0), (2, 1), (3, 1)))
        self.assertEqual(row_alone((1, 2, 5, 0), 1), ((1, 1), (2, 1), (2, 0), (3, 0)))

    def test_all_small_pieces(self):
        for piece in oracle.pieces_up_to(4):
            for half in (1, 2, 3):
                self.assertEqual(row_alone(piece, half), oracle.cells_on(piece, half), (piece, half))

    def test_a_web_at_all_halves(self):
        for half in range(1, 31):
            for index, piece in enumerate(WEB.pieces):
                with self.subTest(half=half, index=index):
                    self.assertEqual(row_of(WEB, half, index), oracle.cells_on(piece, half))

    def test_unknown_pieces(self):
        for index in (-1, 2, 6, 60):
            with self.assertRaises(UnknownPiece):
                row_of(CROSS, 2, index)
        with self.assertRaises(UnknownPiece):
            row_of(NOTHING, 30, 0)

    def test_wrong_halves_come_first(self):
        for half in WRONG_HALVES:
            for drawing, index in ((CROSS, 0), (CROSS, 2), (NOTHING, 0)):
                with self.assertRaises(InvalidHalf):
                    row_of(drawing, half, index)


class ChainTest(unittest.TestCase):
    def test_only_hot_cells(self):
        self.assertEqual(chain(CROSS, 2, 0), ((0, 0), (1, 1), (2, 1)))
        self.assertEqual(chain(CROSS, 2, 1), ((0, 1), (1, 1), (2, 0)))
        self.assertEqual(chain(drawing=Drawing(((0, 0, 60, 0),)), half=1, piece=0), ((0, 0), (30, 0)))

    def test_from_the_first_end_on(self):
        turned = Drawing(((8, 4, 0, 0), (0, 4, 8, 0)))
        self.assertEqual(chain(turned, 2, 0), ((2, 1), (1, 1), (0, 0)))

    def test_cells_that_other_pieces_make_hot(self):
        drawing = Drawing(((0, 0, 20, 0), (20, 1, 8, 1), (4, 1, 4, 20), (60, 0, 60, 60)))
        self.assertEqual(chain(drawing, 2, 0), ((0, 0), (1, 0), (2, 0), (5, 0)))
        self.assertEqual(chain(drawing, 2, 1), ((5, 0), (2, 0)))
        self.assertEqual(chain(drawing, 2, 3), ((15, 0), (15, 15)))

    def test_through_a_corner_of_a_hot_cell(self):
        for corner, expected in (((0, 2, 2, 0), ((0, 1), (1, 1), (1, 0))), ((2, 0, 0, 2), ((1, 0), (1, 1), (0, 1)))):
            self.assertEqual(chain(Drawing((corner, (2, 2, 9, 9))), 1, 0), expected)
            self.assertEqual(chain(Drawing((corner, (4, 2, 9, 9))), 1, 0), (expected[0], expected[2]))

    def test_past_a_corner_of_a_hot_cell(self):
        # Rising through the corner (1, 1), it has no point in the cells (1, 0) and (0, 1), which are hot.
        drawing = Drawing(((0, 0, 2, 2), (2, 0, 9, 0), (0, 2, 0, 9)))
        self.assertEqual(hot_cells(drawing, 1)[:4], ((0, 0), (0, 1), (0, 5), (1, 0)))
        self.assertEqual(chain(drawing, 1, 0), ((0, 0), (1, 1)))

    def test_one_cell(self):
        self.assertEqual(chain(CROSS, 30, 0), ((0, 0),))

    def test_chains_are_those_of_all_pieces(self):
        for half in range(1, 31):
            self.assertEqual(chains(WEB, half), [chain(WEB, half, index) for index in range(6)])

    def test_a_web_at_all_halves(self):
        for half in range(1, 31):
            hot = oracle.reasons(WEB.pieces, half)
            expected = [tuple(cell for cell in oracle.cells_on(piece, half) if cell in hot) for piece in WEB.pieces]
            with self.subTest(half=half):
                self.assertEqual(chains(WEB, half), expected)

    def test_no_piece(self):
        self.assertEqual(chains(NOTHING, 1), [])
        self.assertEqual(chains(NOTHING, 30), [])

    def test_unknown_pieces(self):
        for index in (-1, 2, 6, 60):
            with self.assertRaises(UnknownPiece):
                chain(CROSS, 2, index)
        with self.assertRaises(UnknownPiece):
            chain(NOTHING, 1, 0)

    def test_wrong_halves_come_first(self):
        for half in WRONG_HALVES:
            for drawing, index in ((CROSS, 0), (CROSS, 2), (NOTHING, 0)):
                with self.assertRaises(InvalidHalf):
                    chain(drawing, half, index)
                with self.assertRaises(InvalidHalf):
                    chains(drawing, half)

    def test_the_caller_may_change_the_list(self):
        expected = [((0, 0), (1, 1), (2, 1)), ((0, 1), (1, 1), (2, 0))]
        chains(CROSS, 2).clear()
        self.assertEqual(chains(CROSS, 2), expected)


class KindsTest(unittest.TestCase):
    def test_kinds_of_results(self):
        self.assertIs(type(hot_cells(WEB, 3)), tuple)
        self.assertIs(type(reasons(WEB, 3)), dict)
        self.assertIs(type(chain(WEB, 3, 0)), tuple)
        self.assertIs(type(chains(WEB, 3)), list)
        self.assertIs(type(row_of(WEB, 3, 0)), tuple)
        for found in (*reasons(WEB, 3).values(), *chains(WEB, 3)):
            self.assertIs(type(found), tuple)
        point = meeting(WEB, 0, 1)
        self.assertEqual([type(value) for value in (point, *point, *point[0], *point[1])], [tuple] * 3 + [int] * 4)

    def test_the_drawing_stays_as_it_was(self):
        pieces = WEB.pieces
        hot_cells(WEB, 3), reasons(WEB, 3), chains(WEB, 3), row_of(WEB, 3, 5)
        self.assertEqual(WEB, Drawing(pieces))

    def test_a_boolean_is_no_number(self):
        with self.assertRaises(InvalidHalf):
            hot_cells(CROSS, True)
        with self.assertRaises(UnknownPiece):
            row_of(CROSS, 1, True)
        with self.assertRaises(UnknownPiece):
            meeting(CROSS, False, True)


if __name__ == "__main__":
    unittest.main()
