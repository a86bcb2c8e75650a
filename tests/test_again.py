"""Promises 1, 11 and 12: chains that are led again."""

import unittest

import oracle
from ledlines.again import far_cells, led_again, still_after
from ledlines.cells import chains
from ledlines.drawings import Drawing
from ledlines.errors import InvalidHalf, InvalidNumber
from samples import HALVES, samples

CROSS = Drawing(((0, 0, 8, 4), (0, 4, 8, 0)))
TWICE = Drawing(((0, 26, 26, 6), (24, 22, 28, 24)))
THRICE = Drawing(((19, 20, 18, 14), (19, 29, 16, 23), (15, 7, 5, 28), (0, 1, 1, 17), (0, 12, 5, 7)))
NOTHING = Drawing(())
WRONG_HALVES = (0, 31, -1, -30, 60, True, False)
WRONG_NUMBERS = (-1, 100, 101, 1000, -99, True, False)


class LedAgainTest(unittest.TestCase):
    def test_once(self):
        expected = [((0, 0), (1, 1), (2, 1)), ((0, 1), (1, 1), (2, 1), (2, 0))]
        self.assertEqual(led_again(CROSS, 2, 1), expected)
        self.assertEqual(led_again(drawing=CROSS, half=2, times=99), expected)

    def test_no_time(self):
        self.assertEqual(led_again(CROSS, 2, 0), [((0, 0), (1, 1), (2, 1)), ((0, 1), (1, 1), (2, 0))])
        for half in HALVES:
            self.assertEqual(led_again(THRICE, half, 0), chains(THRICE, half))

    def test_from_the_other_end(self):
        turned = Drawing(((8, 4, 0, 0), (8, 0, 0, 4)))
        self.assertEqual(led_again(turned, 2, 1), [((2, 1), (1, 1), (0, 0)), ((2, 0), (2, 1), (1, 1), (0, 1))])

    def test_each_time(self):
        other = ((2, 2), (3, 2))
        expected = [((0, 3), (3, 1)), ((0, 3), (2, 2), (3, 1)), ((0, 3), (2, 2), (3, 2), (3, 1))]
        for times in (0, 1, 2):
            self.assertEqual(led_again(TWICE, 5, times), [expected[times], other])
        for times in (3, 4, 98, 99):
            self.assertEqual(led_again(TWICE, 5, times), [expected[2], other])

    def test_through_a_corner(self):
        # The corner of (0, 1) and (1, 0) lies in (1, 1), through which the piece itself does not come.
        falling = (0, 2, 1, 0)
        self.assertEqual(chains(Drawing((falling, (2, 2, 9, 9))), 1)[0], ((0, 1), (1, 0)))
        self.assertEqual(led_again(Drawing((falling, (2, 2, 9, 9))), 1, 1)[0], ((0, 1), (1, 1), (1, 0)))
        self.assertEqual(led_again(Drawing((falling, (4, 2, 9, 9))), 1, 1)[0], ((0, 1), (1, 0)))
        self.assertEqual(led_again(Drawing((falling, (0, 0, 0, 1))), 1, 1)[0], ((0, 1), (0, 0), (1, 0)))

    def test_past_a_corner(self):
        # Rising lines come from (0, 0) to (1, 1) at once, past the hot cells (1, 0) and (0, 1).
        self.assertEqual(led_again(Drawing(((0, 0, 1, 2), (2, 0, 9, 0))), 1, 1)[0], ((0, 0), (1, 1)))
        self.assertEqual(led_again(Drawing(((2, 1, 0, 0), (0, 2, 0, 9))), 1, 1)[0], ((1, 1), (0, 0)))

    def test_a_chain_of_one_cell(self):
        for times in (0, 1, 99):
            self.assertEqual(led_again(CROSS, 30, times), [((0, 0),), ((0, 0),)])
            self.assertEqual(led_again(Drawing(((59, 60, 60, 60),)), 30, times), [((1, 1),)])

    def test_cells_that_are_not_hot_stay_out(self):
        self.assertEqual(led_again(Drawing(((0, 0, 60, 0),)), 1, 99), [((0, 0), (30, 0))])

    def test_no_piece(self):
        for times in (0, 1, 99):
            self.assertEqual(led_again(NOTHING, 1, times), [])
            self.assertEqual(led_again(NOTHING, 30, times), [])

    def test_samples(self):
        for pieces in samples() + [THRICE.pieces, TWICE.pieces]:
            for half in HALVES:
                for times in (0, 1, 2, 3, 5):
                    expected = oracle.led_again(pieces, half, times)
                    self.assertEqual(led_again(Drawing(pieces), half, times), expected, (pieces, half, times))

    def test_wrong_numbers(self):
        for times in WRONG_NUMBERS:
            for drawing in (CROSS, NOTHING):
                with self.assertRaises(InvalidNumber):
                    led_again(drawing, 2, times)

    def test_wrong_halves_come_first(self):
        for half in WRONG_HALVES:
            for drawing in (CROSS, NOTHING):
                for times in (0, 99, 100, -1, True):
                    with self.assertRaises(InvalidHalf):
                        led_again(drawing, half, times)

    def test_the_caller_may_change_the_list(self):
        for times in (0, 1):
            expected = oracle.led_again(CROSS.pieces, 2, times)
            led_again(CROSS, 2, times).clear()
            self.assertEqual(led_again(CROSS, 2, times), expected)


class StillAfterTest(unittest.TestCase):
    def test_how_many_times(self):
        self.assertEqual(still_after(Drawing(((0, 0, 60, 0),)), 1), 0)
        self.assertEqual(still_after(CROSS, 2), 1)
        self.assertEqual(still_after(TWICE, 5), 2)
        self.assertEqual(still_after(drawing=THRICE, half=3), 3)

    def test_chains_of_one_cell(self):
        self.assertEqual(still_after(CROSS, 30), 0)

    def test_no_piece(self):
        self.assertEqual(still_after(NOTHING, 1), 0)
        self.assertEqual(still_after(NOTHING, 30), 0)

    def test_samples(self):
        for pieces in samples():
            for half in HALVES:
                times, rows = still_after(Drawing(pieces), half), oracle.led_again(pieces, half, 6)
                self.assertEqual(oracle.led_again(pieces, half, times), rows, (pieces, half))
                if times > 0:
                    self.assertNotEqual(oracle.led_again(pieces, half, times - 1), rows, (pieces, half))

    def test_wrong_halves(self):
        for half in WRONG_HALVES:
            for drawing in (CROSS, NOTHING):
                with self.assertRaises(InvalidHalf):
                    still_after(drawing, half)


class FarCellsTest(unittest.TestCase):
    def test_some_pieces(self):
        self.assertEqual(far_cells(CROSS, 2), (1,))
        self.assertEqual(far_cells(TWICE, 5), (0,))
        self.assertEqual(far_cells(drawing=THRICE, half=3), (2,))

    def test_several_pieces(self):
        drawing = Drawing(((0, 2, 1, 0), (2, 2, 9, 9), (20, 22, 21, 20), (22, 22, 29, 29), (0, 50, 60, 60)))
        self.assertEqual(far_cells(drawing, 1), (0, 2))

    def test_no_such_piece(self):
        self.assertEqual(far_cells(CROSS, 30), ())
        self.assertEqual(far_cells(Drawing(((0, 0, 60, 0),)), 1), ())

    def test_a_cell_that_is_not_hot_makes_no_piece_far(self):
        # The centres' line comes through (2, 1), the piece itself does not.
        self.assertEqual(far_cells(Drawing(((0, 4, 8, 0),)), 2), ())

    def test_no_piece(self):
        self.assertEqual(far_cells(NOTHING, 1), ())
        self.assertEqual(far_cells(NOTHING, 30), ())

    def test_samples(self):
        for pieces in samples():
            for half in HALVES:
                rows = oracle.led_again(pieces, half, 6)
                expected = tuple(index for index, row in enumerate(rows)
                                 if set(row) - set(oracle.cells_on(pieces[index], half)))
                self.assertEqual(far_cells(Drawing(pieces), half), expected, (pieces, half))

    def test_wrong_halves(self):
        for half in WRONG_HALVES:
            for drawing in (CROSS, NOTHING):
                with self.assertRaises(InvalidHalf):
                    far_cells(drawing, half)


class KindsTest(unittest.TestCase):
    def test_kinds_of_results(self):
        for times in (0, 1, 99):
            found = led_again(CROSS, 2, times)
            self.assertEqual([type(found), *map(type, found)], [list, tuple, tuple])
        self.assertEqual([type(still_after(CROSS, 2)), type(far_cells(CROSS, 2))], [int, tuple])

    def test_the_drawing_stays_as_it_was(self):
        pieces = THRICE.pieces
        before = chains(THRICE, 3)
        led_again(THRICE, 3, 9), still_after(THRICE, 3), far_cells(THRICE, 3)
        self.assertEqual((THRICE, chains(THRICE, 3)), (Drawing(pieces), before))

    def test_functions_are_defined_in_the_file(self):
        for function in (led_again, still_after, far_cells):
            self.assertEqual(function.__module__, "ledlines.again")


if __name__ == "__main__":
    unittest.main()
