"""Promises 1 and 13 to 16: pieces that are put in and taken out, and drawings and ends that are led alike."""

import unittest

import oracle
from ledlines.changes import ends_alike, led_alike, parting_halves, put_in, same_end_halves, taken_out
from ledlines.drawings import Drawing
from ledlines.errors import InvalidHalf, InvalidPiece, InvalidPoint, UnknownPiece, UnlikeCounts
from samples import HALVES, samples

CROSS = Drawing(((0, 0, 8, 4), (0, 4, 8, 0)))
BESIDE = Drawing(((0, 0, 8, 0), (0, 6, 8, 6)))
MOVED = Drawing(((1, 0, 8, 0), (0, 6, 8, 6)))
ROWS = Drawing(tuple((0, 9 * y, 60, 9 * y) for y in range(6)))
NOTHING = Drawing(())
WRONG_HALVES = (0, 31, -1, -30, 60, True, False)
WRONG_PIECES = ((), (1,), (1, 2, 3), (1, 2, 3, 4, 5), (0, 0, 61, 0), (0, -1, 5, 5), (3, 3, 3, 3), (True, 0, 5, 5),
                (5, 5, 9, False))
WRONG_POINTS = ((-1, 0), (0, -1), (61, 0), (0, 61), (60, 1000), (True, 0), (0, True), (False, False), (-60, -60))


def difference(pieces, index, half):
    """Return what a piece of a drawing changes, by the oracle: (cells, pieces)."""
    rest = pieces[:index] + pieces[index + 1:]
    cells = tuple(sorted(set(oracle.reasons(pieces, half)) - set(oracle.reasons(rest, half))))
    after = oracle.chains(rest, half)
    after.insert(index, None)
    rows = list(enumerate(zip(oracle.chains(pieces, half), after)))
    return (cells, tuple(at for at, (row, other) in rows if at != index and row != other))


class PutInTest(unittest.TestCase):
    def test_cells_alone(self):
        self.assertEqual(put_in(BESIDE, (0, 3, 8, 3), 2), (((0, 1), (2, 1)), ()))
        self.assertEqual(put_in(drawing=NOTHING, piece=(8, 0, 0, 0), half=2), (((0, 0), (2, 0)), ()))

    def test_chains_that_change(self):
        self.assertEqual(put_in(Drawing(CROSS.pieces[:1]), (0, 4, 8, 0), 2), (((0, 1), (1, 1), (2, 0)), (0,)))
        self.assertEqual(put_in(Drawing(ROWS.pieces[:5]), (30, 9, 30, 20), 1), (((15, 5), (15, 9), (15, 10)), (1, 2)))

    def test_cells_that_were_hot_before(self):
        self.assertEqual(put_in(BESIDE, (0, 1, 8, 1), 2), ((), ()))
        self.assertEqual(put_in(BESIDE, (0, 1, 8, 1), 1), (((0, 1), (4, 1)), ()))

    def test_cells_ascend(self):
        self.assertEqual(put_in(BESIDE, (60, 60, 0, 20), 1)[0], ((0, 10), (30, 30)))
        self.assertEqual(put_in(BESIDE, (0, 20, 0, 4), 1)[0], ((0, 2), (0, 10)))

    def test_a_piece_that_shares_an_end(self):
        self.assertEqual(put_in(BESIDE, (8, 0, 16, 0), 2), (((4, 0),), ()))

    def test_the_sixth_piece(self):
        self.assertEqual(put_in(Drawing(ROWS.pieces[:5]), ROWS.pieces[5], 1), (((0, 23), (30, 23)), ()))

    def test_no_such_drawing(self):
        for piece in WRONG_PIECES + ((1, 0, 5, 0), (8, 0, 0, 0), (0, 6, 9, 6)):
            with self.subTest(piece=piece):
                with self.assertRaises(InvalidPiece):
                    put_in(BESIDE, piece, 2)

    def test_a_seventh_piece(self):
        for piece in ((0, 60, 60, 60), (30, 0, 30, 60), ()):
            with self.assertRaises(InvalidPiece):
                put_in(ROWS, piece, 1)

    def test_a_wrong_piece_comes_first(self):
        for half in WRONG_HALVES:
            for drawing, piece in ((BESIDE, (1, 0, 5, 0)), (NOTHING, ()), (ROWS, (0, 60, 60, 60))):
                with self.assertRaises(InvalidPiece):
                    put_in(drawing, piece, half)

    def test_wrong_halves(self):
        for half in WRONG_HALVES:
            for drawing in (BESIDE, NOTHING):
                with self.assertRaises(InvalidHalf):
                    put_in(drawing, (0, 3, 8, 3), half)

    def test_samples(self):
        for pieces in samples():
            for half in HALVES:
                for many in range(1, len(pieces)):
                    found = put_in(Drawing(pieces[:many]), pieces[many], half)
                    self.assertEqual(found, difference(pieces[:many + 1], many, half), (pieces, half, many))


class TakenOutTest(unittest.TestCase):
    def test_cells_and_chains(self):
        self.assertEqual(taken_out(CROSS, 1, 2), (((0, 1), (1, 1), (2, 0)), (0,)))
        self.assertEqual(taken_out(drawing=CROSS, piece=0, half=2), (((0, 0), (1, 1), (2, 1)), (1,)))

    def test_indexes_are_as_they_were(self):
        drawing = Drawing(((0, 20, 60, 20), (30, 0, 30, 60), (0, 40, 60, 40), (0, 60, 9, 60), (50, 40, 60, 59)))
        self.assertEqual(taken_out(drawing, 1, 1), (((15, 0), (15, 10), (15, 20), (15, 30)), (0, 2)))
        self.assertEqual(taken_out(drawing, 0, 1), (((0, 10), (15, 10), (30, 10)), (1,)))
        self.assertEqual(taken_out(drawing, 4, 1), (((25, 20), (30, 30)), (2,)))

    def test_cells_that_stay_hot(self):
        self.assertEqual(taken_out(BESIDE, 1, 30), ((), ()))
        self.assertEqual(taken_out(Drawing(((0, 0, 8, 0), (8, 0, 16, 0))), 0, 2), (((0, 0),), ()))

    def test_three_pieces_in_one_point(self):
        # Without the third piece, the other two still meet in the point.
        star = Drawing(((0, 0, 40, 40), (0, 40, 40, 0), (20, 0, 20, 40)))
        self.assertEqual(taken_out(star, 2, 1), (((10, 0), (10, 20)), ()))

    def test_the_only_piece(self):
        self.assertEqual(taken_out(Drawing(((8, 0, 0, 0),)), 0, 2), (((0, 0), (2, 0)), ()))

    def test_it_is_what_putting_in_changes(self):
        for pieces in samples()[20:]:
            last = len(pieces) - 1
            found = put_in(Drawing(pieces[:last]), pieces[last], 3)
            self.assertEqual(taken_out(Drawing(pieces), last, 3), found)

    def test_samples(self):
        for pieces in samples():
            for half in HALVES:
                for index in range(len(pieces)):
                    found = taken_out(Drawing(pieces), index, half)
                    self.assertEqual(found, difference(pieces, index, half), (pieces, half, index))

    def test_unknown_pieces_come_first(self):
        for half in (2,) + WRONG_HALVES:
            for index in (-1, 2, 6, True, False):
                with self.assertRaises(UnknownPiece):
                    taken_out(CROSS, index, half)
            with self.assertRaises(UnknownPiece):
                taken_out(NOTHING, 0, half)

    def test_wrong_halves(self):
        for half in WRONG_HALVES:
            with self.assertRaises(InvalidHalf):
                taken_out(CROSS, 1, half)


class LedAlikeTest(unittest.TestCase):
    def test_alike_or_not(self):
        self.assertIs(led_alike(BESIDE, MOVED, 2), True)
        self.assertIs(led_alike(one=BESIDE, other=MOVED, half=1), False)
        self.assertIs(led_alike(BESIDE, BESIDE, 1), True)

    def test_piece_by_piece(self):
        self.assertIs(led_alike(BESIDE, Drawing(BESIDE.pieces[::-1]), 2), False)
        self.assertIs(led_alike(BESIDE, Drawing(BESIDE.pieces[::-1]), 30), True)

    def test_from_the_first_end_on(self):
        turned = Drawing(((8, 0, 0, 0), (0, 6, 8, 6)))
        self.assertIs(led_alike(BESIDE, turned, 2), False)
        self.assertIs(led_alike(BESIDE, turned, 30), True)

    def test_all_pieces_count(self):
        # At the half 3, (15, 3) and (12, 3) lie in different cells, at the half 4 in the same one.
        one, other = Drawing(((0, 0, 30, 0), (15, 3, 15, 30))), Drawing(((0, 0, 30, 0), (12, 3, 15, 30)))
        self.assertIs(led_alike(one, other, 3), False)
        self.assertIs(led_alike(one, other, 4), True)

    def test_no_piece(self):
        self.assertIs(led_alike(NOTHING, NOTHING, 1), True)
        self.assertIs(led_alike(NOTHING, Drawing(()), 30), True)

    def test_unlike_counts_come_first(self):
        for half in (2,) + WRONG_HALVES:
            for one, other in ((NOTHING, CROSS), (CROSS, NOTHING), (CROSS, ROWS), (ROWS, Drawing(ROWS.pieces[:5]))):
                with self.assertRaises(UnlikeCounts):
                    led_alike(one, other, half)

    def test_wrong_halves(self):
        for half in WRONG_HALVES:
            for one, other in ((NOTHING, NOTHING), (CROSS, CROSS), (CROSS, BESIDE)):
                with self.assertRaises(InvalidHalf):
                    led_alike(one, other, half)


class PartingHalvesTest(unittest.TestCase):
    def test_some_halves(self):
        self.assertEqual(parting_halves(BESIDE, MOVED), [1])
        self.assertEqual(parting_halves(one=MOVED, other=BESIDE), [1])

    def test_all_halves_and_none(self):
        one, other = Drawing(((0, 0, 9, 0),)), Drawing(((60, 60, 51, 60),))
        self.assertEqual(parting_halves(one, other), list(range(1, 31)))
        self.assertEqual(parting_halves(one, one), [])
        self.assertEqual(parting_halves(NOTHING, NOTHING), [])

    def test_the_greatest_half(self):
        # They differ where 29 and 30 do, which is at borders at 30.
        one, other = Drawing(((0, 0, 29, 0),)), Drawing(((0, 0, 30, 0),))
        self.assertEqual(parting_halves(one, other), [2, 6, 10, 30])

    def test_samples(self):
        found = [pieces for pieces in samples() if len(pieces) == 2]
        for one, other in zip(found, found[1:]):
            expected = [half for half in range(1, 31) if oracle.chains(one, half) != oracle.chains(other, half)]
            self.assertEqual(parting_halves(Drawing(one), Drawing(other)), expected)

    def test_unlike_counts(self):
        for one, other in ((NOTHING, CROSS), (CROSS, NOTHING), (CROSS, ROWS)):
            with self.assertRaises(UnlikeCounts):
                parting_halves(one, other)

    def test_the_caller_may_change_the_list(self):
        parting_halves(BESIDE, MOVED).clear()
        self.assertEqual(parting_halves(BESIDE, MOVED), [1])


class EndsAlikeTest(unittest.TestCase):
    def test_within_the_board(self):
        self.assertEqual(ends_alike(2, (5, 7)), ((2, 6), (5, 9)))
        self.assertEqual(ends_alike(half=3, point=(9, 8)), ((9, 3), (14, 8)))

    def test_at_the_rim_of_the_board(self):
        self.assertEqual(ends_alike(2, (5, 1)), ((2, 0), (5, 1)))
        self.assertEqual(ends_alike(1, (0, 60)), ((0, 59), (0, 60)))
        self.assertEqual(ends_alike(4, (60, 0)), ((60, 0), (60, 3)))
        self.assertEqual(ends_alike(30, (29, 30)), ((0, 30), (29, 60)))
        self.assertEqual(ends_alike(30, (60, 60)), ((30, 30), (60, 60)))

    def test_points_on_borders(self):
        for x, low, high in ((5, 2, 5), (6, 6, 9), (9, 6, 9), (10, 10, 13)):
            self.assertEqual(ends_alike(2, (x, 4)), ((low, 2), (high, 5)))
            self.assertEqual(ends_alike(2, (4, x)), ((2, low), (5, high)))

    def test_all_points(self):
        for half in range(1, 31):
            numbers = [oracle.number_in(value, half) for value in range(61)]
            for value in range(61):
                alike = [other for other in range(61) if numbers[other] == numbers[value]]
                expected = ((alike[0], numbers.index(numbers[0])), (alike[-1], half - 1))
                self.assertEqual(ends_alike(half, (value, 0)), expected)
                self.assertEqual(ends_alike(half, (0, value)), tuple((y, x) for x, y in expected))

    def test_wrong_points(self):
        for point in WRONG_POINTS:
            with self.assertRaises(InvalidPoint):
                ends_alike(2, point)

    def test_wrong_halves_come_first(self):
        for half in WRONG_HALVES:
            for point in ((0, 0),) + WRONG_POINTS:
                with self.assertRaises(InvalidHalf):
                    ends_alike(half, point)


class SameEndHalvesTest(unittest.TestCase):
    def test_some_halves(self):
        self.assertEqual(same_end_halves((0, 0), (29, 0)), [30])
        self.assertEqual(same_end_halves(one=(0, 29), other=(0, 0)), [30])
        self.assertEqual(same_end_halves((0, 0), (27, 28)), [29, 30])

    def test_both_numbers_count(self):
        self.assertEqual(same_end_halves((0, 0), (30, 0)), [])
        self.assertEqual(same_end_halves((0, 30), (0, 0)), [])
        self.assertEqual(same_end_halves((0, 30), (1, 29)), [half for half in range(2, 30) if half not in (2, 6, 10)])

    def test_the_same_point(self):
        for point in ((0, 0), (60, 60), (7, 30)):
            self.assertEqual(same_end_halves(point, point), list(range(1, 31)))

    def test_all_points_of_a_line(self):
        for one in (0, 17, 30, 60):
            for other in range(61):
                expected = [h for h in range(1, 31) if oracle.number_in(one, h) == oracle.number_in(other, h)]
                self.assertEqual(same_end_halves((one, 5), (other, 5)), expected)
                self.assertEqual(same_end_halves((5, one), (5, other)), expected)

    def test_wrong_points(self):
        for point in WRONG_POINTS:
            for one, other in ((point, (0, 0)), ((60, 60), point), (point, point)):
                with self.assertRaises(InvalidPoint):
                    same_end_halves(one, other)

    def test_the_caller_may_change_the_list(self):
        same_end_halves((0, 0), (29, 0)).clear()
        self.assertEqual(same_end_halves((0, 0), (29, 0)), [30])


class KindsTest(unittest.TestCase):
    def test_kinds_of_results(self):
        found = [put_in(BESIDE, (0, 3, 8, 3), 2), taken_out(CROSS, 1, 2), ends_alike(2, (5, 1))]
        for value in found:
            self.assertEqual([type(value), *map(type, value)], [tuple] * 3)
        self.assertEqual([type(parting_halves(BESIDE, MOVED)), type(same_end_halves((0, 0), (1, 1)))], [list, list])

    def test_the_drawing_stays_as_it_was(self):
        pieces = BESIDE.pieces
        put_in(BESIDE, (0, 3, 8, 3), 2), taken_out(BESIDE, 0, 2), led_alike(BESIDE, MOVED, 2)
        with self.assertRaises(InvalidPiece):
            put_in(BESIDE, (), 2)
        self.assertEqual((BESIDE, len(BESIDE)), (Drawing(pieces), 2))
        self.assertEqual(put_in(BESIDE, (0, 3, 8, 3), 2), put_in(BESIDE, (0, 3, 8, 3), 2))

    def test_functions_are_defined_in_the_file(self):
        for function in (put_in, taken_out, led_alike, parting_halves, ends_alike, same_end_halves):
            self.assertEqual(function.__module__, "ledlines.changes")


if __name__ == "__main__":
    unittest.main()
