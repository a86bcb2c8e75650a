"""Promises 1 and 19 to 21: offsets, moves, and numbers of pieces that are led alike."""

import unittest
from fractions import Fraction

import oracle
from ledlines.cells import hot_cells
from ledlines.drawings import Drawing
from ledlines.errors import InvalidCell, InvalidHalf, UnknownPiece
from ledlines.measures import first_piece, moves_of, offsets, piece_count, shared_moves, whole_count, worst_offset
from samples import HALVES, samples

FORK = Drawing(((0, 0, 3, 3), (0, 1, 9, 1)))
CROSS = Drawing(((0, 0, 8, 4), (0, 4, 8, 0)))
SIX = Drawing(((0, 0, 60, 47), (60, 3, 5, 60), (33, 0, 20, 60), (0, 31, 60, 30), (60, 47, 0, 41), (7, 0, 53, 58)))
NOTHING = Drawing(())
# The board of each of these halves ends with the cell of this number.
LAST_NUMBERS = ((1, 30), (2, 15), (3, 10), (4, 8), (5, 6), (8, 4), (15, 2), (20, 2), (21, 1), (30, 1))
WRONG_HALVES = (0, 31, -1, -30, 60, True, False)
WRONG_INDEXES = (-1, 2, 6, 60, True, False)
WRONG_CELLS = ((-1, 0), (0, -1), (16, 0), (0, 16), (99, 99), (True, 3), (3, True), (False, 9), (), (3,), (3, 3, 3))


def oracle_offsets(pieces, half, index):
    """Return the list of offsets of a piece's chain, by the oracle."""
    row = oracle.chains(pieces, half)[index]
    found = [oracle.square_offset((2 * i * half, 2 * j * half), pieces[index]) for i, j in row]
    return [(value.numerator, value.denominator) for value in found]


def corners(half):
    """Return the cells at the corners of the board, and one or two beside them."""
    last = oracle.number_in(60, half)
    return sorted({(0, 0), (0, last), (last, 0), (last, last), (last - 1, 0), (last, last - 1), (min(1, last), 1)})


class OffsetsTest(unittest.TestCase):
    def test_some_chains(self):
        self.assertEqual(offsets(FORK, 1, 0), [(0, 1), (0, 1), (2, 1)])
        self.assertEqual(offsets(drawing=FORK, half=5, piece=1), [(1, 1), (2, 1)])

    def test_beside_the_piece(self):
        # They meet in (4, 2), and lie 16 * 16 / 80 from the centre (4, 4) of its cell.
        self.assertEqual(offsets(CROSS, 2, 0), [(0, 1), (16, 5), (0, 1)])
        self.assertEqual(offsets(CROSS, 2, 1), [(0, 1), (16, 5), (0, 1)])

    def test_in_lowest_terms(self):
        # (0, 2) is beside the piece, 6 * 6 / 40 away; (6, 4) is behind its second end.
        self.assertEqual(offsets(Drawing(((0, 1, 6, 3),)), 1, 0), [(9, 10), (1, 1)])

    def test_behind_an_end_the_end_is_the_nearest_point(self):
        # The line of the piece comes through the centres (4, 4) and (12, 12), the piece itself ends before.
        self.assertEqual(offsets(Drawing(((5, 5, 11, 11),)), 2, 0), [(2, 1), (2, 1)])
        self.assertEqual(offsets(Drawing(((11, 11, 5, 5),)), 2, 0), [(2, 1), (2, 1)])
        self.assertEqual(offsets(Drawing(((5, 8, 11, 8),)), 2, 0), [(1, 1), (1, 1)])

    def test_in_the_order_of_the_chain(self):
        self.assertEqual(offsets(Drawing(((0, 0, 7, 0),)), 2, 0), [(0, 1), (1, 1)])
        self.assertEqual(offsets(Drawing(((7, 0, 0, 0),)), 2, 0), [(1, 1), (0, 1)])

    def test_a_chain_of_one_cell(self):
        self.assertEqual(offsets(Drawing(((60, 60, 31, 60),)), 30, 0), [(0, 1)])
        self.assertEqual(offsets(Drawing(((20, 20, 10, 20),)), 30, 0), [(500, 1)])

    def test_samples(self):
        for pieces in samples() + [SIX.pieces]:
            for half in HALVES:
                for index in range(len(pieces)):
                    expected = oracle_offsets(pieces, half, index)
                    self.assertEqual(offsets(Drawing(pieces), half, index), expected, (pieces, half, index))

    def test_unknown_pieces(self):
        for index in WRONG_INDEXES:
            with self.assertRaises(UnknownPiece):
                offsets(FORK, 2, index)
        with self.assertRaises(UnknownPiece):
            offsets(NOTHING, 2, 0)

    def test_wrong_halves_come_first(self):
        for half in WRONG_HALVES:
            for index in (0,) + WRONG_INDEXES:
                with self.assertRaises(InvalidHalf):
                    offsets(FORK, half, index)

    def test_the_caller_may_change_the_list(self):
        offsets(FORK, 1, 0).clear()
        self.assertEqual(offsets(FORK, 1, 0), [(0, 1), (0, 1), (2, 1)])


class WorstOffsetTest(unittest.TestCase):
    def test_the_greatest_one(self):
        self.assertEqual(worst_offset(FORK, 5), ((2, 1), 1, (1, 0)))
        self.assertEqual(worst_offset(drawing=CROSS, half=2), ((16, 5), 0, (1, 1)))

    def test_by_value(self):
        for half in range(1, 31):
            offset, _, _ = worst_offset(SIX, half)
            found = [Fraction(*value) for index in range(6) for value in offsets(SIX, half, index)]
            self.assertEqual(Fraction(*offset), max(found))

    def test_the_first_piece_and_the_first_cell(self):
        self.assertEqual(worst_offset(Drawing(((5, 5, 11, 11),)), 2), ((2, 1), 0, (1, 1)))
        self.assertEqual(worst_offset(Drawing(((11, 11, 5, 5),)), 2), ((2, 1), 0, (3, 3)))
        self.assertEqual(worst_offset(Drawing(((25, 25, 31, 31), (5, 5, 11, 11))), 2), ((2, 1), 0, (6, 6)))
        self.assertEqual(worst_offset(Drawing(((0, 0, 8, 0), (5, 5, 11, 11))), 2), ((2, 1), 1, (1, 1)))

    def test_pieces_on_centres(self):
        self.assertEqual(worst_offset(Drawing(((0, 0, 0, 8), (60, 0, 4, 0))), 1), ((0, 1), 0, (0, 0)))

    def test_no_piece(self):
        for half in (1, 30):
            self.assertIsNone(worst_offset(NOTHING, half))

    def test_samples(self):
        for pieces in samples():
            for half in HALVES:
                found = []
                for index, row in enumerate(oracle.chains(pieces, half)):
                    for at, (cell, offset) in enumerate(zip(row, oracle_offsets(pieces, half, index))):
                        found.append((-Fraction(*offset), index, at, offset, cell))
                expected = None
                if found:
                    _, index, _, offset, cell = min(found)
                    expected = (offset, index, cell)
                self.assertEqual(worst_offset(Drawing(pieces), half), expected, (pieces, half))

    def test_wrong_halves(self):
        for half in WRONG_HALVES:
            for drawing in (FORK, NOTHING):
                with self.assertRaises(InvalidHalf):
                    worst_offset(drawing, half)


class MovesOfTest(unittest.TestCase):
    def test_along_a_chain(self):
        self.assertEqual(moves_of(FORK, 1, 1), 5)
        self.assertEqual(moves_of(drawing=FORK, half=1, piece=0), 2)
        self.assertEqual(moves_of(CROSS, 2, 1), 2)

    def test_whichever_is_more(self):
        self.assertEqual(moves_of(Drawing(((0, 0, 40, 20),)), 1, 0), 20)
        self.assertEqual(moves_of(Drawing(((0, 60, 40, 0),)), 1, 0), 30)
        self.assertEqual(moves_of(Drawing(((60, 60, 0, 0),)), 1, 0), 30)
        self.assertEqual(moves_of(Drawing(((7, 60, 7, 0),)), 1, 0), 30)

    def test_each_step_of_the_chain_counts(self):
        # The chain goes through (1, 2), (3, 1) and (3, 0): from its first cell straight to its last one there are 2.
        self.assertEqual(moves_of(Drawing(((15, 0, 15, 22), (3, 14, 19, 2))), 3, 1), 3)

    def test_a_chain_of_one_cell(self):
        self.assertEqual(moves_of(FORK, 30, 0), 0)

    def test_samples(self):
        for pieces in samples():
            for half in HALVES:
                for index, row in enumerate(oracle.chains(pieces, half)):
                    expected = sum(max(abs(i - u), abs(j - v)) for (i, j), (u, v) in zip(row, row[1:]))
                    self.assertEqual(moves_of(Drawing(pieces), half, index), expected, (pieces, half, index))

    def test_unknown_pieces(self):
        for index in WRONG_INDEXES:
            with self.assertRaises(UnknownPiece):
                moves_of(FORK, 2, index)
        with self.assertRaises(UnknownPiece):
            moves_of(NOTHING, 2, 0)

    def test_wrong_halves_come_first(self):
        for half in WRONG_HALVES:
            for index in (0,) + WRONG_INDEXES:
                with self.assertRaises(InvalidHalf):
                    moves_of(FORK, half, index)


class SharedMovesTest(unittest.TestCase):
    def test_each_pair_once(self):
        self.assertEqual(shared_moves(FORK, 5), 1)
        self.assertEqual(shared_moves(drawing=CROSS, half=2), 4)

    def test_in_one_way_or_the_other(self):
        for back in ((0, 1, 60, 1), (60, 1, 0, 1)):
            drawing = Drawing(((0, 0, 60, 0), back))
            self.assertEqual(shared_moves(drawing, 2), 15)
            self.assertEqual(shared_moves(drawing, 1), 60)

    def test_pairs_that_overlap_are_different_pairs(self):
        # One piece comes from (0, 0) to (30, 0) past (15, 1); the moves of other pairs count besides.
        drawing = Drawing(((0, 0, 60, 0), (0, 2, 30, 2)))
        self.assertEqual(shared_moves(drawing, 1), 30 + 15)

    def test_few_cells(self):
        self.assertEqual(shared_moves(CROSS, 30), 0)
        for half in (1, 30):
            self.assertEqual(shared_moves(NOTHING, half), 0)

    def test_samples(self):
        for pieces in samples():
            for half in HALVES:
                pairs = {tuple(sorted(pair)) for row in oracle.chains(pieces, half) for pair in zip(row, row[1:])}
                expected = sum(max(abs(i - u), abs(j - v)) for (i, j), (u, v) in pairs)
                self.assertEqual(shared_moves(Drawing(pieces), half), expected, (pieces, half))

    def test_wrong_halves(self):
        for half in WRONG_HALVES:
            for drawing in (FORK, NOTHING):
                with self.assertRaises(InvalidHalf):
                    shared_moves(drawing, half)


class PieceCountTest(unittest.TestCase):
    def test_two_cells(self):
        self.assertEqual(piece_count(30, (0, 0), (1, 0)), 837000)
        self.assertEqual(piece_count(half=30, one=(1, 0), other=(0, 0)), 837000)
        self.assertEqual(piece_count(2, (3, 3), (4, 9)), 16 * 16)

    def test_the_same_cell(self):
        self.assertEqual(piece_count(2, (3, 3), (3, 3)), 16 * 15)
        self.assertEqual(piece_count(30, (1, 1), (1, 1)), 961 * 960)
        self.assertEqual(piece_count(2, (0, 0), (0, 0)), 12)

    def test_a_cell_with_one_point(self):
        # The last cell of the half 4 begins at 60, the first one of the half 1 ends before 1.
        self.assertEqual(piece_count(4, (8, 8), (8, 8)), 0)
        self.assertEqual(piece_count(1, (0, 0), (0, 0)), 0)
        self.assertEqual(piece_count(1, (0, 0), (1, 0)), 2)

    def test_cells_of_all_halves(self):
        for half in range(1, 31):
            for one in corners(half):
                for other in corners(half):
                    many = len(oracle.ends_in(one, half))
                    expected = many * (many - 1) if one == other else many * len(oracle.ends_in(other, half))
                    self.assertEqual(piece_count(half, one, other), expected, (half, one, other))

    def test_all_pieces(self):
        # All ends in pairs are told on the coarsest grid.
        cells = [(i, j) for i in range(2) for j in range(2)]
        self.assertEqual(sum(piece_count(30, one, other) for one in cells for other in cells), 3721 * 3720)

    def test_wrong_cells(self):
        for function in (piece_count, first_piece):
            for cell in WRONG_CELLS:
                for one, other in ((cell, (5, 5)), ((5, 5), cell), (cell, cell)):
                    with self.assertRaises(InvalidCell):
                        function(2, one, other)

    def test_the_end_of_the_board(self):
        for function in (piece_count, first_piece):
            for half, last in LAST_NUMBERS:
                function(half, (0, last), (last, last))
                for cell in ((last + 1, 0), (0, last + 1)):
                    for one, other in ((cell, (0, 0)), ((0, 0), cell)):
                        with self.assertRaises(InvalidCell):
                            function(half, one, other)

    def test_wrong_halves_come_first(self):
        for function in (piece_count, first_piece):
            for half in WRONG_HALVES:
                for cell in ((0, 0),) + WRONG_CELLS:
                    with self.assertRaises(InvalidHalf):
                        function(half, cell, cell)


class FirstPieceTest(unittest.TestCase):
    def test_two_cells(self):
        self.assertEqual(first_piece(2, (1, 0), (0, 0)), (2, 0, 0, 0))
        self.assertEqual(first_piece(half=2, one=(3, 4), other=(5, 6)), (10, 14, 18, 22))

    def test_the_same_cell(self):
        self.assertEqual(first_piece(2, (0, 0), (0, 0)), (0, 0, 0, 1))
        self.assertEqual(first_piece(2, (3, 4), (3, 4)), (10, 14, 10, 15))

    def test_a_cell_with_one_row_or_one_point(self):
        self.assertEqual(first_piece(4, (0, 8), (0, 8)), (0, 60, 1, 60))
        self.assertEqual(first_piece(4, (8, 0), (8, 0)), (60, 0, 60, 1))
        self.assertIsNone(first_piece(4, (8, 8), (8, 8)))
        self.assertIsNone(first_piece(1, (0, 0), (0, 0)))
        self.assertEqual(first_piece(1, (0, 0), (0, 1)), (0, 0, 0, 1))

    def test_cells_of_several_halves(self):
        for half in (1, 2, 3, 4, 5, 20):
            for one in corners(half):
                for other in corners(half):
                    pieces = [a + b for a in oracle.ends_in(one, half)[:2] for b in oracle.ends_in(other, half)[:2]
                              if a != b]
                    expected = min(pieces, default=None)
                    self.assertEqual(first_piece(half, one, other), expected, (half, one, other))


class WholeCountTest(unittest.TestCase):
    def test_one_cell(self):
        self.assertEqual(whole_count(2, ((0, 0),)), 12)
        self.assertEqual(whole_count(half=30, cells=((1, 1),)), 961 * 960)
        self.assertEqual(whole_count(4, ((8, 8),)), 0)

    def test_two_cells(self):
        self.assertEqual(whole_count(30, ((0, 0), (1, 0))), 2 * 837000)
        self.assertEqual(whole_count(1, ((0, 0), (30, 30))), 2 * 4)

    def test_all_drawings_of_one_piece(self):
        for half in (1, 2, 3):
            for cells in (((0, 0),), ((0, 0), (0, 1)), ((0, 1), (1, 0)), ((0, 0), (2, 1)), ((1, 1),)):
                ends = [end for cell in cells for end in oracle.ends_in(cell, half)]
                pieces = [one + other for one in ends for other in ends if one != other]
                found = [piece for piece in pieces if hot_cells(Drawing((piece,)), half) == cells]
                self.assertEqual(whole_count(half, cells), len(found), (half, cells))

    def test_all_counts_together(self):
        cells = [(i, j) for i in range(2) for j in range(2)]
        pairs = [(one, other) for one in cells for other in cells if one < other]
        found = [whole_count(30, (cell,)) for cell in cells] + [whole_count(30, pair) for pair in pairs]
        self.assertEqual(sum(found), 3721 * 3720)

    def test_wrong_cells(self):
        for cell in WRONG_CELLS:
            for cells in ((cell,), (cell, (5, 5)), ((0, 0), cell), (cell, cell)):
                with self.assertRaises(InvalidCell):
                    whole_count(2, cells)

    def test_wrong_tuples(self):
        for cells in ((), ((0, 0), (0, 0)), ((0, 1), (0, 0)), ((1, 0), (0, 9)), ((0, 0), (0, 1), (0, 2))):
            with self.assertRaises(InvalidCell):
                whole_count(2, cells)

    def test_the_end_of_the_board(self):
        for half, last in LAST_NUMBERS:
            whole_count(half, ((0, 0), (last, last)))
            with self.assertRaises(InvalidCell):
                whole_count(half, ((0, 0), (last + 1, 0)))

    def test_wrong_halves_come_first(self):
        for half in WRONG_HALVES:
            for cells in ((), ((0, 0),), ((-1, 0), (0, 0)), ((0, 0), (0, 0))):
                with self.assertRaises(InvalidHalf):
                    whole_count(half, cells)


class KindsTest(unittest.TestCase):
    def test_kinds_of_results(self):
        found = [offsets(FORK, 1, 0), worst_offset(FORK, 5), moves_of(FORK, 1, 1), shared_moves(FORK, 5)]
        found += [piece_count(2, (0, 0), (0, 0)), first_piece(2, (0, 0), (0, 0)), whole_count(2, ((0, 0),))]
        found += offsets(CROSS, 2, 0)
        kinds = [list, tuple, int, int, int, tuple, int, tuple, tuple, tuple]
        self.assertEqual([type(value) for value in found], kinds)

    def test_the_drawing_stays_as_it_was(self):
        pieces = SIX.pieces
        first = [offsets(SIX, 3, 0), worst_offset(SIX, 3), moves_of(SIX, 3, 5), shared_moves(SIX, 3)]
        again = [offsets(SIX, 3, 0), worst_offset(SIX, 3), moves_of(SIX, 3, 5), shared_moves(SIX, 3)]
        self.assertEqual((SIX.pieces, first), (pieces, again))

    def test_functions_are_defined_in_the_file(self):
        for function in (offsets, worst_offset, moves_of, shared_moves, piece_count, first_piece, whole_count):
            self.assertEqual(function.__module__, "ledlines.measures")


if __name__ == "__main__":
    unittest.main()
