"""Promises 1, 17 and 18: the board, touched cells, regions and ways, and numbers of hot cells."""

import unittest

import oracle
from ledlines.boards import fewest_hot, hot_between, hot_counts, regions, steps_between, touched
from ledlines.drawings import Drawing
from ledlines.errors import InvalidCell, InvalidHalf
from samples import HALVES, samples

ANGLE = Drawing(((0, 0, 12, 0), (4, 0, 4, 8)))
CROSS = Drawing(((0, 0, 60, 60), (0, 60, 60, 0)))
WALL = Drawing(((30, 0, 30, 60),))
SIX = Drawing(((0, 0, 60, 47), (60, 3, 5, 60), (33, 0, 20, 60), (0, 31, 60, 30), (60, 47, 0, 41), (7, 0, 53, 58)))
NOTHING = Drawing(())
# The board of each of these halves ends with the cell of this number.
LAST_NUMBERS = ((1, 30), (2, 15), (3, 10), (4, 8), (5, 6), (8, 4), (15, 2), (20, 2), (21, 1), (30, 1))
WRONG_HALVES = (0, 31, -1, -30, 60, True, False)
WRONG_CELLS = ((-1, 0), (0, -1), (16, 0), (0, 16), (99, 99), (True, 3), (3, True), (False, 9), (), (3,), (3, 3, 3))


class TouchedTest(unittest.TestCase):
    def test_all_cells_on_the_way(self):
        expected = ((0, 0), (1, 0), (1, 1), (1, 2), (2, 0), (3, 0))
        self.assertEqual(touched(ANGLE, 2), expected)
        self.assertEqual(touched(drawing=ANGLE, half=2), expected)

    def test_cells_of_several_pieces_once(self):
        # (15, 45) lies in (1, 2), and (45, 15) in (2, 1).
        self.assertEqual(touched(CROSS, 15), ((0, 0), (0, 2), (1, 1), (1, 2), (2, 0), (2, 1), (2, 2)))
        self.assertEqual(touched(Drawing(((60, 0, 0, 0), (0, 1, 60, 1))), 15), ((0, 0), (1, 0), (2, 0)))

    def test_borders(self):
        # At the half 2, 2 lies in the cell number 1, and 6 in the number 2.
        self.assertEqual(touched(Drawing(((2, 60, 5, 60),)), 2), ((1, 15),))
        self.assertEqual(touched(Drawing(((2, 60, 6, 60),)), 2), ((1, 15), (2, 15)))

    def test_corners_of_the_board(self):
        for half, last in LAST_NUMBERS:
            self.assertEqual(touched(CROSS, half)[0], (0, 0))
            self.assertEqual(touched(CROSS, half)[-1], (last, last))

    def test_no_piece(self):
        for half in (1, 30):
            self.assertEqual(touched(NOTHING, half), ())

    def test_samples(self):
        for pieces in samples() + [SIX.pieces]:
            for half in HALVES:
                self.assertEqual(touched(Drawing(pieces), half), oracle.touched(pieces, half), (pieces, half))

    def test_wrong_halves(self):
        for half in WRONG_HALVES:
            for drawing in (ANGLE, NOTHING):
                with self.assertRaises(InvalidHalf):
                    touched(drawing, half)


class RegionsTest(unittest.TestCase):
    def test_the_whole_board(self):
        for half, last in LAST_NUMBERS:
            expected = tuple((i, j) for i in range(last + 1) for j in range(last + 1))
            self.assertEqual(regions(NOTHING, half), [expected])

    def test_two_sides_of_a_wall(self):
        left = tuple((i, j) for i in range(3) for j in range(7))
        right = tuple((i, j) for i in range(4, 7) for j in range(7))
        self.assertEqual(regions(WALL, 5), [left, right])
        self.assertEqual(regions(drawing=WALL, half=5), [left, right])

    def test_regions_ascend_by_their_first_cells(self):
        # The cross leaves a left, a lower, an upper and a right region, which are told by their lowest first numbers.
        expected = [((0, 1), (0, 2)), ((1, 0), (2, 0)), ((1, 4), (2, 3), (2, 4), (3, 4)),
                    ((3, 2), (4, 1), (4, 2), (4, 3))]
        self.assertEqual(regions(CROSS, 8), expected)

    def test_cells_that_touch_in_corners_do_not_hang_together(self):
        self.assertEqual(regions(CROSS, 15), [((0, 1),), ((1, 0),)])

    def test_no_cell_is_left(self):
        self.assertEqual(regions(CROSS, 30), [])
        self.assertEqual(regions(Drawing(((0, 0, 60, 0), (0, 60, 60, 60))), 30), [])

    def test_one_cell_of_a_corner_is_left(self):
        self.assertEqual(regions(Drawing(((0, 0, 60, 0), (0, 60, 5, 60))), 30), [((1, 1),)])

    def test_samples(self):
        for pieces in samples():
            for half in HALVES[3:]:
                free = [cell for cell in oracle.board(half) if cell not in oracle.touched(pieces, half)]
                steps = oracle.ways(free)
                expected = sorted({tuple(other for other in free if (cell, other) in steps) for cell in free})
                self.assertEqual(regions(Drawing(pieces), half), expected, (pieces, half))

    def test_regions_and_touched_cells_make_up_the_board(self):
        for pieces in samples(1):
            for half in HALVES:
                drawing = Drawing(pieces)
                cells = [cell for region in regions(drawing, half) for cell in region]
                self.assertEqual(sorted(cells + list(touched(drawing, half))), oracle.board(half))

    def test_wrong_halves(self):
        for half in WRONG_HALVES:
            for drawing in (CROSS, NOTHING):
                with self.assertRaises(InvalidHalf):
                    regions(drawing, half)

    def test_the_caller_may_change_the_list(self):
        regions(WALL, 15).clear()
        self.assertEqual(regions(WALL, 15), [((0, 0), (0, 1), (0, 2)), ((2, 0), (2, 1), (2, 2))])


class StepsBetweenTest(unittest.TestCase):
    def test_around_a_piece(self):
        self.assertEqual(steps_between(ANGLE, 2, (0, 1), (2, 1)), 6)
        self.assertEqual(steps_between(drawing=ANGLE, half=2, one=(2, 1), other=(0, 1)), 6)

    def test_by_sides_only(self):
        for half, last in LAST_NUMBERS:
            self.assertEqual(steps_between(NOTHING, half, (0, 0), (last, last)), 2 * last)
            self.assertEqual(steps_between(NOTHING, half, (0, last), (last, 0)), 2 * last)
            self.assertEqual(steps_between(NOTHING, half, (0, 0), (0, last)), last)

    def test_the_same_cell(self):
        for cell in ((0, 1), (15, 15), (0, 15)):
            self.assertEqual(steps_between(ANGLE, 2, cell, cell), 0)

    def test_no_way(self):
        self.assertIsNone(steps_between(WALL, 5, (2, 0), (4, 0)))
        self.assertIsNone(steps_between(CROSS, 15, (0, 1), (1, 0)))
        self.assertEqual(steps_between(WALL, 5, (2, 6), (0, 0)), 8)

    def test_no_way_beyond_the_board(self):
        # The way around the upper end has to leave the board.
        self.assertIsNone(steps_between(Drawing(((30, 0, 30, 56),)), 5, (2, 0), (4, 0)))
        self.assertEqual(steps_between(Drawing(((30, 0, 30, 54),)), 5, (2, 0), (4, 0)), 14)

    def test_samples(self):
        for pieces in samples():
            for half in (8, 15, 30):
                free = [cell for cell in oracle.board(half) if cell not in oracle.touched(pieces, half)]
                steps, drawing = oracle.ways(free), Drawing(pieces)
                for one in free:
                    for other in free:
                        self.assertEqual(steps_between(drawing, half, one, other), steps.get((one, other)))

    def test_wrong_cells(self):
        for cell in WRONG_CELLS:
            for one, other in ((cell, (5, 5)), ((5, 5), cell), (cell, cell)):
                with self.assertRaises(InvalidCell):
                    steps_between(ANGLE, 2, one, other)
                with self.assertRaises(InvalidCell):
                    steps_between(NOTHING, 2, one, other)

    def test_the_end_of_the_board(self):
        for half, last in LAST_NUMBERS:
            for cell in ((last + 1, 0), (0, last + 1)):
                for one, other in ((cell, (0, 0)), ((0, 0), cell)):
                    with self.assertRaises(InvalidCell):
                        steps_between(NOTHING, half, one, other)

    def test_touched_cells(self):
        # (2, 0) is not hot, but touched.
        for cell in ((0, 0), (2, 0), (1, 1)):
            for one, other in ((cell, (5, 5)), ((5, 5), cell), (cell, cell)):
                with self.assertRaises(InvalidCell):
                    steps_between(ANGLE, 2, one, other)

    def test_wrong_halves_come_first(self):
        for half in WRONG_HALVES:
            for cell in ((5, 5), (0, 0)) + WRONG_CELLS:
                with self.assertRaises(InvalidHalf):
                    steps_between(ANGLE, half, cell, cell)


class HotCountsTest(unittest.TestCase):
    def test_all_halves(self):
        expected = [4] * 4 + [3] * 4 + [2] * 4 + [1] * 18
        self.assertEqual(hot_counts(ANGLE), expected)
        self.assertEqual(hot_counts(drawing=ANGLE), expected)

    def test_few_pieces(self):
        self.assertEqual(hot_counts(NOTHING), [0] * 30)
        self.assertEqual(hot_counts(WALL), [2] * 30)
        self.assertEqual(hot_counts(CROSS), [5] * 20 + [4] * 10)

    def test_samples(self):
        for pieces in samples(1) + [SIX.pieces]:
            expected = [len(oracle.reasons(pieces, half)) for half in range(1, 31)]
            self.assertEqual(hot_counts(Drawing(pieces)), expected, pieces)

    def test_the_caller_may_change_the_list(self):
        hot_counts(WALL).clear()
        self.assertEqual(hot_counts(WALL), [2] * 30)


class FewestHotTest(unittest.TestCase):
    def test_the_least_half_of_several(self):
        self.assertEqual(fewest_hot(ANGLE), (13, 1))
        self.assertEqual(fewest_hot(drawing=CROSS), (21, 4))

    def test_the_same_number_at_all_halves(self):
        self.assertEqual(fewest_hot(NOTHING), (1, 0))
        self.assertEqual(fewest_hot(WALL), (1, 2))

    def test_the_greatest_half_alone(self):
        # 0 and 29 are in one cell only at the half 30.
        self.assertEqual(fewest_hot(Drawing(((0, 0, 29, 0),))), (30, 1))

    def test_samples(self):
        for pieces in samples(1) + [SIX.pieces]:
            counts = [len(oracle.reasons(pieces, half)) for half in range(1, 31)]
            expected = (1 + counts.index(min(counts)), min(counts))
            self.assertEqual(fewest_hot(Drawing(pieces)), expected, pieces)


class HotBetweenTest(unittest.TestCase):
    def test_all_ends(self):
        expected = ((0, 0), (4, 0), (4, 8), (12, 0))
        self.assertEqual(hot_between(ANGLE, 1, 2), expected)
        self.assertEqual(hot_between(drawing=ANGLE, low=1, high=4), expected)

    def test_ends_that_fall_together(self):
        # From the half 5 to 8 the first two ends do, from 9 to 12 (4, 8) too, from 13 on all of them.
        self.assertEqual(hot_between(ANGLE, 1, 5), ((4, 8), (12, 0)))
        self.assertEqual(hot_between(ANGLE, 5, 8), ((4, 8), (12, 0)))
        self.assertEqual(hot_between(ANGLE, 5, 9), ((12, 0),))
        self.assertEqual(hot_between(ANGLE, 12, 12), ((12, 0),))
        self.assertEqual(hot_between(ANGLE, 1, 13), ())
        self.assertEqual(hot_between(ANGLE, 30, 30), ())

    def test_each_half_between_counts(self):
        # 1 and 2 are kept apart at the half 2 only, 5 and 6 at 2 and 6.
        drawing = Drawing(((1, 0, 2, 0), (5, 50, 6, 50)))
        self.assertEqual(hot_between(drawing, 2, 2), ((1, 0), (2, 0), (5, 50), (6, 50)))
        self.assertEqual(hot_between(drawing, 6, 6), ((5, 50), (6, 50)))
        for low, high in ((1, 2), (2, 3), (2, 6), (1, 30), (7, 7)):
            self.assertEqual(hot_between(drawing, low, high), ())

    def test_all_halves(self):
        self.assertEqual(hot_between(WALL, 1, 30), ((30, 0), (30, 60)))
        self.assertEqual(hot_between(CROSS, 1, 30), ((0, 0), (0, 60), (60, 0), (60, 60)))

    def test_an_end_of_several_pieces_is_one_point(self):
        star = Drawing(((30, 30, 60, 60), (0, 60, 30, 30), (30, 30, 0, 0)))
        self.assertEqual(hot_between(star, 1, 20), ((0, 0), (0, 60), (30, 30), (60, 60)))
        self.assertEqual(hot_between(star, 20, 21), ((0, 0), (0, 60)))

    def test_points_of_meeting_do_not_count(self):
        # They meet in (2, 2), which is no end, in the same cell as the end (2, 1).
        drawing = Drawing(((0, 0, 60, 60), (2, 60, 2, 1)))
        self.assertEqual(hot_between(drawing, 1, 1), ((0, 0), (2, 1), (2, 60), (60, 60)))

    def test_no_piece(self):
        for low, high in ((1, 1), (1, 30), (30, 30)):
            self.assertEqual(hot_between(NOTHING, low, high), ())

    def test_samples(self):
        for pieces in samples():
            points = sorted({end for piece in pieces for end in (piece[:2], piece[2:])})
            for low, high in ((1, 1), (1, 2), (2, 5), (7, 19), (30, 30)):
                expected = []
                for point in points:
                    cells = [[tuple(oracle.number_in(value, half) for value in end) for half in range(low, high + 1)]
                             for end in [point] + [other for other in points if other != point]]
                    if not any(one == other for row in cells[1:] for one, other in zip(cells[0], row)):
                        expected.append(point)
                self.assertEqual(hot_between(Drawing(pieces), low, high), tuple(expected), (pieces, low, high))

    def test_wrong_halves(self):
        for half in WRONG_HALVES:
            for drawing in (ANGLE, NOTHING):
                for low, high in ((half, 5), (5, half), (half, half)):
                    with self.assertRaises(InvalidHalf):
                        hot_between(drawing, low, high)

    def test_halves_in_the_wrong_order(self):
        for low, high in ((2, 1), (30, 1), (30, 29)):
            for drawing in (ANGLE, NOTHING):
                with self.assertRaises(InvalidHalf):
                    hot_between(drawing, low, high)


class KindsTest(unittest.TestCase):
    def test_kinds_of_results(self):
        found = [touched(ANGLE, 2), regions(ANGLE, 2), steps_between(ANGLE, 2, (0, 1), (2, 1)), hot_counts(ANGLE)]
        found += [fewest_hot(ANGLE), hot_between(ANGLE, 1, 2), touched(ANGLE, 2)[0], regions(ANGLE, 2)[0]]
        kinds = [tuple, list, int, list, tuple, tuple, tuple, tuple]
        self.assertEqual([type(value) for value in found], kinds)

    def test_the_drawing_stays_as_it_was(self):
        for pieces in samples(1)[9:]:
            drawing = Drawing(pieces)
            first = [touched(drawing, 5), regions(drawing, 5), hot_counts(drawing), hot_between(drawing, 1, 9)]
            again = [touched(drawing, 5), regions(drawing, 5), hot_counts(drawing), hot_between(drawing, 1, 9)]
            self.assertEqual((drawing.pieces, first), (pieces, again))

    def test_functions_are_defined_in_the_file(self):
        for function in (touched, regions, steps_between, hot_counts, fewest_hot, hot_between):
            self.assertEqual(function.__module__, "ledlines.boards")


if __name__ == "__main__":
    unittest.main()
