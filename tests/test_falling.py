"""Promises 1 and 7 to 10: what falls together, grids that keep pieces apart, and orders of pieces and cells."""

import unittest

import oracle
from ledlines.cells import chains, row_of
from ledlines.drawings import Drawing
from ledlines.errors import InvalidHalf, SamePiece, UnknownPiece
from ledlines.falling import apart_halves, edges, greatest_half, on_cell, order_on, together
from samples import HALVES, samples

CROSS = Drawing(((0, 0, 8, 4), (0, 4, 8, 0)))
BESIDE = Drawing(((0, 0, 8, 0), (0, 6, 8, 6)))
ANGLE = Drawing(((0, 0, 8, 0), (8, 0, 8, 8)))
STAR = Drawing(((0, 0, 40, 40), (0, 40, 40, 0), (20, 0, 20, 40)))
NOTHING = Drawing(())
WRONG_HALVES = (0, 31, -1, -30, 60, True, False)


class TogetherTest(unittest.TestCase):
    def test_pieces_beside_each_other(self):
        self.assertEqual(together(BESIDE, 6), [])
        self.assertEqual(together(BESIDE, 7), [(0, 1)])
        self.assertEqual(together(drawing=BESIDE, half=30), [(0, 1)])

    def test_pieces_that_meet(self):
        for drawing in (CROSS, ANGLE, STAR):
            for half in (1, 2, 5, 30):
                self.assertEqual(together(drawing, half), [])

    def test_a_cell_that_only_another_piece_makes_hot(self):
        # Both come through (3, 3), which is not hot without the third piece.
        pieces = ((10, 50, 50, 10), (10, 44, 44, 10))
        for index in (0, 1):
            self.assertIn((3, 3), row_of(Drawing(pieces), 5, index))
        self.assertEqual(together(Drawing(pieces), 5), [])
        self.assertEqual(together(Drawing(pieces + ((28, 29, 29, 28),)), 5), [(0, 1), (0, 2), (1, 2)])

    def test_ends_on_a_border(self):
        # At the half 3 a border stands at 9: 9 lies behind it, 8 before it.
        self.assertEqual(together(Drawing(((0, 0, 8, 0), (9, 0, 20, 0))), 3), [])
        self.assertEqual(together(Drawing(((0, 0, 8, 0), (8, 1, 20, 1))), 3), [(0, 1)])

    def test_pairs_ascend(self):
        drawing = Drawing(((0, 0, 8, 0), (60, 60, 52, 60), (0, 2, 8, 2), (60, 58, 52, 58), (0, 4, 8, 4)))
        self.assertEqual(together(drawing, 7), [(0, 2), (0, 4), (1, 3), (2, 4)])

    def test_few_pieces(self):
        for half in (1, 30):
            self.assertEqual(together(NOTHING, half), [])
            self.assertEqual(together(Drawing(((0, 0, 8, 0),)), half), [])

    def test_samples(self):
        for pieces in samples():
            for half in HALVES:
                rows = oracle.chains(pieces, half)
                pairs = [(one, other) for one in range(len(pieces)) for other in range(one + 1, len(pieces))]
                expected = [(one, other) for one, other in pairs
                            if oracle.shared(pieces[one], pieces[other]) is None and set(rows[one]) & set(rows[other])]
                self.assertEqual(together(Drawing(pieces), half), expected, (pieces, half))

    def test_wrong_halves(self):
        for half in WRONG_HALVES:
            for drawing in (BESIDE, NOTHING):
                with self.assertRaises(InvalidHalf):
                    together(drawing, half)

    def test_the_caller_may_change_the_list(self):
        together(BESIDE, 7).clear()
        self.assertEqual(together(BESIDE, 7), [(0, 1)])


class OnCellTest(unittest.TestCase):
    def test_one_piece_or_several(self):
        self.assertEqual(on_cell(CROSS, 2, (1, 1)), (0, 1))
        self.assertEqual(on_cell(CROSS, 2, (0, 0)), (0,))
        self.assertEqual(on_cell(drawing=CROSS, half=2, cell=(2, 0)), (1,))
        self.assertEqual(on_cell(STAR, 2, (5, 5)), (0, 1, 2))

    def test_a_cell_on_the_way_that_another_piece_makes_hot(self):
        self.assertEqual(on_cell(Drawing(((30, 1, 30, 9), (0, 0, 60, 0))), 3, (5, 0)), (0, 1))

    def test_a_cell_that_is_not_hot(self):
        # The first piece comes through (1, 0), and nothing through (2, 2); the others are no cells of the board.
        for cell in ((1, 0), (2, 2), (-1, 0), (0, -1), (16, 0), (99, 99)):
            self.assertEqual(on_cell(CROSS, 2, cell), ())

    def test_a_boolean_is_no_number_of_a_cell(self):
        for cell in ((True, True), (1, True), (True, 1), (False, 0)):
            self.assertEqual(on_cell(CROSS, 2, cell), ())

    def test_no_piece(self):
        self.assertEqual(on_cell(NOTHING, 1, (0, 0)), ())
        self.assertEqual(on_cell(NOTHING, 30, (0, 0)), ())

    def test_samples(self):
        for pieces in samples():
            for half in HALVES[1:]:
                drawing, rows = Drawing(pieces), oracle.chains(pieces, half)
                for cell in [(i, j) for i in range(8) for j in range(8)]:
                    expected = tuple(index for index, row in enumerate(rows) if cell in row)
                    self.assertEqual(on_cell(drawing, half, cell), expected, (pieces, half, cell))

    def test_wrong_halves(self):
        for half in WRONG_HALVES:
            for drawing, cell in ((CROSS, (1, 1)), (CROSS, (-1, True)), (NOTHING, (0, 0))):
                with self.assertRaises(InvalidHalf):
                    on_cell(drawing, half, cell)


class GreatestHalfTest(unittest.TestCase):
    def test_a_cross(self):
        self.assertEqual(greatest_half(CROSS), 2)
        self.assertEqual(greatest_half(drawing=CROSS), 2)

    def test_no_piece(self):
        self.assertEqual(greatest_half(NOTHING), 30)

    def test_the_greatest_half_of_all(self):
        self.assertEqual(greatest_half(Drawing(((0, 0, 60, 60),))), 30)
        self.assertEqual(greatest_half(Drawing(((29, 0, 30, 0),))), 30)

    def test_the_least_half_of_all(self):
        self.assertEqual(greatest_half(Drawing(((0, 0, 8, 0), (4, 1, 4, 8)))), 1)

    def test_none(self):
        # The ends of the first one are only kept apart by a border at 2, those of the second one by one at 4.
        self.assertEqual(greatest_half(Drawing(((1, 0, 2, 0),))), 2)
        self.assertEqual(greatest_half(Drawing(((3, 9, 4, 9),))), 4)
        self.assertIsNone(greatest_half(Drawing(((1, 0, 2, 0), (3, 9, 4, 9)))))

    def test_the_same_point_twice_is_one_point(self):
        # At the half 8 the end in which they meet lies on a border.
        self.assertEqual(greatest_half(ANGLE), 8)
        # At the half 9, the second piece comes through (1, 2), in which the third one ends.
        self.assertEqual(greatest_half(STAR), 8)

    def test_different_points_of_meeting(self):
        # They meet at 24 and 28: from the half 10 to 24, no border stands between these; above, the ends fall together.
        self.assertEqual(greatest_half(Drawing(((0, 30, 60, 30), (24, 0, 24, 60), (28, 0, 28, 60)))), 9)

    def test_an_end_on_the_way_of_another_piece(self):
        # From the half 12 on, the first piece comes through the cell in which (30, 33) lies.
        self.assertEqual(greatest_half(Drawing(((0, 30, 60, 30), (30, 33, 30, 60)))), 11)
        self.assertEqual(greatest_half(Drawing(((30, 60, 30, 33), (60, 30, 0, 30)))), 11)

    def test_others_that_meet_on_the_way_of_a_piece(self):
        # At the half 4, the first piece comes through (2, 3), in which only the other two meet.
        self.assertEqual(greatest_half(Drawing(((22, 28, 14, 5), (18, 29, 5, 6), (3, 28, 23, 13)))), 3)

    def test_an_end_on_the_piece_itself_is_its_own(self):
        # From the half 21 on, (30, 30), (30, 60) and (60, 30) lie in one cell.
        self.assertEqual(greatest_half(Drawing(((0, 30, 60, 30), (30, 30, 30, 60)))), 20)

    def test_samples(self):
        for pieces in samples():
            halves = [half for half in range(1, 31) if oracle.nothing_together(pieces, half)]
            self.assertEqual(greatest_half(Drawing(pieces)), max(halves, default=None), pieces)


class ApartHalvesTest(unittest.TestCase):
    def test_pieces_beside_each_other(self):
        self.assertEqual(apart_halves(BESIDE, 0, 1), [1, 2, 3, 4, 5, 6])
        self.assertEqual(apart_halves(drawing=BESIDE, one=1, other=0), [1, 2, 3, 4, 5, 6])

    def test_all_halves(self):
        far = Drawing(((0, 0, 5, 0), (60, 60, 50, 60)))
        self.assertEqual(apart_halves(far, 0, 1), list(range(1, 31)))

    def test_some_halves_between_others(self):
        # Ends at 1 and 2 are only kept apart by a border at 2.
        self.assertEqual(apart_halves(Drawing(((0, 0, 1, 0), (2, 0, 9, 0))), 0, 1), [2])
        self.assertEqual(apart_halves(Drawing(((0, 0, 14, 0), (15, 0, 40, 0))), 0, 1), [1, 3, 5, 15])

    def test_pieces_that_meet(self):
        for drawing, one, other in ((CROSS, 0, 1), (ANGLE, 1, 0), (STAR, 2, 0)):
            self.assertEqual(apart_halves(drawing, one, other), [])

    def test_a_cell_that_only_another_piece_makes_hot(self):
        pieces = ((10, 50, 50, 10), (10, 44, 44, 10))
        self.assertIn(5, apart_halves(Drawing(pieces), 0, 1))
        self.assertNotIn(5, apart_halves(Drawing(pieces + ((28, 29, 29, 28),)), 0, 1))

    def test_samples(self):
        for pieces in samples():
            for one, other in ((0, 1), (3, 2)):
                if max(one, other) < len(pieces):
                    rows = [oracle.chains(pieces, half) for half in range(1, 31)]
                    expected = [at for at, row in enumerate(rows, 1) if not set(row[one]) & set(row[other])]
                    self.assertEqual(apart_halves(Drawing(pieces), one, other), expected, pieces)

    def test_unknown_pieces(self):
        wrong = ((2, 0), (0, 2), (-1, 0), (0, -1), (True, 0), (0, True), (1, False), (6, 60))
        for one, other in wrong:
            with self.assertRaises(UnknownPiece):
                apart_halves(BESIDE, one, other)
        with self.assertRaises(UnknownPiece):
            apart_halves(NOTHING, 0, 1)

    def test_the_same_piece_twice(self):
        for index in (0, 1):
            with self.assertRaises(SamePiece):
                apart_halves(BESIDE, index, index)

    def test_an_unknown_piece_comes_first(self):
        for drawing, index in ((BESIDE, 2), (BESIDE, -1), (BESIDE, True), (BESIDE, False), (NOTHING, 0)):
            with self.assertRaises(UnknownPiece):
                apart_halves(drawing, index, index)

    def test_the_caller_may_change_the_list(self):
        apart_halves(BESIDE, 0, 1).clear()
        self.assertEqual(apart_halves(BESIDE, 0, 1), [1, 2, 3, 4, 5, 6])


class OrderOnTest(unittest.TestCase):
    def test_from_the_first_end_on(self):
        for piece, expected in (((0, 9, 60, 9), (3, 1, 2)), ((60, 9, 0, 9), (2, 1, 3))):
            drawing = Drawing((piece, (30, 0, 30, 60), (50, 60, 50, 9), (10, 9, 10, 0)))
            self.assertEqual(order_on(drawing, 0), expected)
            upright = Drawing(tuple((y, x, y2, x2) for x, y, x2, y2 in drawing.pieces))
            self.assertEqual(order_on(drawing=upright, piece=0), expected)

    def test_on_slanted_pieces(self):
        # Along the falling one, the first numbers rise while the second ones fall, or the other way about.
        for piece, expected in (((0, 60, 60, 0), (2, 1)), ((60, 0, 0, 60), (1, 2)),
                                ((0, 0, 60, 59), (2, 1)), ((60, 59, 0, 0), (1, 2))):
            drawing = Drawing((piece, (50, 0, 50, 60), (5, 0, 5, 60)))
            self.assertEqual(order_on(drawing, 0), expected)

    def test_pieces_through_one_point_ascend(self):
        self.assertEqual(order_on(STAR, 0), (1, 2))
        self.assertEqual(order_on(STAR, 1), (0, 2))
        self.assertEqual(order_on(STAR, 2), (0, 1))
        turned = Drawing(((40, 40, 0, 0),) + STAR.pieces[1:] + ((30, 30, 30, 9),))
        self.assertEqual(order_on(turned, 0), (3, 1, 2))

    def test_points_between_the_numbers(self):
        # They meet the first piece at 3 / 2, 5 / 3, 7 / 5 and 2.
        drawing = Drawing(((0, 1, 60, 1), (1, 0, 2, 2), (1, 0, 3, 3), (1, 0, 3, 5), (2, 0, 2, 9)))
        self.assertEqual(order_on(drawing, 0), (3, 1, 2, 4))

    def test_pieces_that_meet_in_ends(self):
        self.assertEqual(order_on(ANGLE, 0), (1,))
        row = Drawing(((8, 0, 16, 0), (24, 0, 16, 0), (0, 0, 8, 0), (8, 0, 8, 9)))
        self.assertEqual(order_on(row, 0), (2, 3, 1))

    def test_no_piece_that_meets_it(self):
        self.assertEqual(order_on(BESIDE, 1), ())
        self.assertEqual(order_on(Drawing(((0, 0, 8, 0),)), 0), ())

    def test_samples(self):
        for pieces in samples(9):
            for index in range(len(pieces)):
                self.assertEqual(order_on(Drawing(pieces), index), oracle.order_on(pieces, index), (pieces, index))

    def test_unknown_pieces(self):
        for index in (-1, 2, 6, True, False):
            with self.assertRaises(UnknownPiece):
                order_on(CROSS, index)
        with self.assertRaises(UnknownPiece):
            order_on(NOTHING, 0)


class EdgesTest(unittest.TestCase):
    def test_all_neighbours(self):
        expected = {((0, 0), (1, 1)): (0,), ((0, 1), (1, 1)): (1,), ((1, 1), (2, 0)): (1,), ((1, 1), (2, 1)): (0,)}
        self.assertEqual(edges(CROSS, 2), expected)
        self.assertEqual(edges(drawing=CROSS, half=2), expected)

    def test_cells_that_are_far_from_each_other(self):
        self.assertEqual(edges(Drawing(((60, 0, 0, 0),)), 1), {((0, 0), (30, 0)): (0,)})

    def test_in_one_way_or_the_other(self):
        drawing = Drawing(((60, 0, 0, 0), (0, 1, 59, 1), (40, 0, 60, 60), (59, 2, 1, 2)))
        found = edges(drawing, 10)
        self.assertEqual(found[(0, 0), (2, 0)], (0, 1, 3))
        self.assertEqual(found[(2, 0), (3, 0)], (0, 1, 3))
        self.assertNotIn(((2, 0), (0, 0)), found)

    def test_pairs_ascend(self):
        drawing = Drawing(((60, 60, 0, 60), (60, 0, 0, 0), (0, 20, 0, 60)))
        expected = [((0, 0), (2, 0)), ((0, 1), (0, 2)), ((0, 2), (2, 2))]
        self.assertEqual(list(edges(drawing, 15)), expected)

    def test_chains_of_one_cell(self):
        self.assertEqual(edges(CROSS, 30), {})

    def test_no_piece(self):
        for half in (1, 30):
            self.assertEqual(edges(NOTHING, half), {})

    def test_samples(self):
        for pieces in samples():
            for half in HALVES:
                found = {}
                for index, row in enumerate(oracle.chains(pieces, half)):
                    for pair in zip(row, row[1:]):
                        found.setdefault(tuple(sorted(pair)), []).append(index)
                expected = [(pair, tuple(found[pair])) for pair in sorted(found)]
                self.assertEqual(list(edges(Drawing(pieces), half).items()), expected, (pieces, half))

    def test_wrong_halves(self):
        for half in WRONG_HALVES:
            for drawing in (CROSS, NOTHING):
                with self.assertRaises(InvalidHalf):
                    edges(drawing, half)

    def test_the_caller_may_change_the_dict(self):
        expected = {((0, 0), (30, 0)): (0,)}
        drawing = Drawing(((0, 0, 60, 0),))
        edges(drawing, 1).clear()
        self.assertEqual(edges(drawing, 1), expected)


class KindsTest(unittest.TestCase):
    def test_kinds_of_results(self):
        found = [together(BESIDE, 7), on_cell(CROSS, 2, (1, 1)), greatest_half(CROSS), apart_halves(BESIDE, 0, 1)]
        found += [order_on(CROSS, 0), edges(CROSS, 2), together(BESIDE, 7)[0], *edges(CROSS, 2).values()]
        kinds = [list, tuple, int, list, tuple, dict] + [tuple] * 5
        self.assertEqual([type(value) for value in found], kinds)

    def test_the_drawing_stays_as_it_was(self):
        for pieces in samples(1)[9:]:
            drawing = Drawing(pieces)
            before = chains(drawing, 2)
            together(drawing, 2), on_cell(drawing, 2, (0, 0)), greatest_half(drawing), edges(drawing, 2)
            apart_halves(drawing, 0, 1), order_on(drawing, 0)
            self.assertEqual((drawing.pieces, chains(drawing, 2)), (pieces, before))

    def test_functions_are_defined_in_the_file(self):
        for function in (together, on_cell, greatest_half, apart_halves, order_on, edges):
            self.assertEqual(function.__module__, "ledlines.falling")


if __name__ == "__main__":
    unittest.main()
