"""Promises 1 to 3: drawings, and the points in which pieces meet."""

import unittest

import oracle
from ledlines.drawings import Drawing, meeting, meetings
from ledlines.errors import InvalidDrawing, LineError, SamePiece, UnknownPiece

ROWS = tuple((0, y, 5, y) for y in range(7))


def wrong_index(pieces):
    """Return the index of the error that a drawing raises, None if it raises none."""
    try:
        Drawing(pieces)
    except InvalidDrawing as error:
        return error.index
    return None


class WrongPiecesTest(unittest.TestCase):
    def test_numbers_are_from_0_to_60(self):
        self.assertIsNone(wrong_index(((0, 60, 60, 0),)))
        for at in range(4):
            for value in (-1, 61, -60, 1000):
                piece = [3, 4, 8, 9]
                piece[at] = value
                with self.subTest(piece=piece):
                    self.assertEqual(wrong_index((tuple(piece),)), 0)

    def test_a_boolean_is_no_number(self):
        for at in range(4):
            for value in (True, False):
                piece = [3, 4, 8, 9]
                piece[at] = value
                with self.subTest(piece=piece):
                    self.assertEqual(wrong_index((ROWS[0], tuple(piece))), 1)

    def test_ends_are_different(self):
        self.assertEqual(wrong_index(((0, 0, 0, 0),)), 0)
        self.assertEqual(wrong_index(((7, 60, 7, 60),)), 0)
        self.assertIsNone(wrong_index(((7, 7, 7, 8), (5, 7, 4, 7))))

    def test_a_piece_has_four_numbers(self):
        for piece in ((), (1,), (1, 2), (1, 2, 3), (1, 2, 3, 4, 5), (1, 2, 3, 4, 5, 6, 7, 8)):
            with self.subTest(piece=piece):
                self.assertEqual(wrong_index((ROWS[0], ROWS[6], piece)), 2)

    def test_the_seventh_piece_is_one_too_many(self):
        self.assertIsNone(wrong_index(ROWS[:6]))
        self.assertEqual(wrong_index(ROWS), 6)
        self.assertEqual(wrong_index(ROWS + ROWS), 6)
        self.assertEqual(wrong_index(ROWS[:6] + ((),)), 6)
        self.assertEqual(wrong_index(ROWS[:6] + ((0, 0, 0, 0), ())), 6)

    def test_the_first_of_several_wrong_pieces_counts(self):
        self.assertEqual(wrong_index((ROWS[0], (0, 0, 61, 0), ROWS[0], ())), 1)
        self.assertEqual(wrong_index((ROWS[0], ROWS[0], (0, 0, 61, 0))), 1)
        self.assertEqual(wrong_index((ROWS[0], ROWS[1], ROWS[1], ROWS[0])), 2)
        self.assertEqual(wrong_index(ROWS[:5] + ((1, 1, 1, 1),) + ROWS[5:]), 5)
        self.assertEqual(wrong_index(((True, 0, 1, 1),) + ROWS), 0)

    def test_the_error_is_one_of_the_package(self):
        with self.assertRaises(LineError) as caught:
            Drawing(((),))
        self.assertEqual(vars(caught.exception), {"index": 0})


class PiecesAlongEachOtherTest(unittest.TestCase):
    def test_the_same_piece(self):
        self.assertEqual(wrong_index(((1, 2, 9, 7), (1, 2, 9, 7))), 1)

    def test_the_same_piece_turned_about(self):
        self.assertEqual(wrong_index(((1, 2, 9, 7), (9, 7, 1, 2))), 1)

    def test_overlapping_pieces(self):
        for piece in ((3, 3, 8, 8), (8, 8, 3, 3), (1, 1, 3, 3), (3, 3, 1, 1), (2, 2, 3, 3), (0, 0, 9, 9)):
            with self.subTest(piece=piece):
                self.assertEqual(wrong_index(((1, 1, 4, 4), piece)), 1)
                self.assertEqual(wrong_index((piece, (4, 4, 1, 1))), 1)

    def test_overlapping_pieces_that_are_upright_or_level(self):
        self.assertEqual(wrong_index(((5, 0, 5, 4), (5, 9, 5, 3))), 1)
        self.assertEqual(wrong_index(((0, 5, 4, 5), (9, 5, 3, 5))), 1)

    def test_any_earlier_piece_counts(self):
        self.assertEqual(wrong_index(((0, 0, 4, 0), (0, 9, 4, 9), (0, 7, 4, 7), (3, 0, 7, 0))), 3)
        self.assertEqual(wrong_index(((0, 9, 4, 9), (0, 7, 4, 7), (0, 0, 4, 0), (3, 0, 7, 0))), 3)

    def test_pieces_that_touch_in_one_point(self):
        for other in ((4, 4, 8, 8), (8, 8, 4, 4), (4, 4, 0, 9), (2, 2, 2, 9), (0, 2, 4, 0), (3, 3, 4, 3)):
            with self.subTest(other=other):
                self.assertIsNone(wrong_index(((0, 0, 4, 4), other)))
                self.assertIsNone(wrong_index((other, (4, 4, 0, 0))))

    def test_pieces_of_one_line_that_do_not_touch(self):
        self.assertIsNone(wrong_index(((0, 0, 3, 3), (4, 4, 8, 8), (60, 60, 9, 9))))

    def test_parallel_pieces(self):
        self.assertIsNone(wrong_index(((0, 0, 4, 4), (0, 1, 4, 5), (5, 4, 1, 0))))


class DrawingTest(unittest.TestCase):
    def test_pieces(self):
        pieces = ((0, 0, 8, 4), (0, 4, 8, 0))
        self.assertEqual(Drawing(pieces).pieces, pieces)
        self.assertEqual(Drawing(pieces=pieces).pieces, pieces)
        self.assertEqual(Drawing(()).pieces, ())

    def test_len(self):
        for many in range(7):
            self.assertEqual(len(Drawing(ROWS[:many])), many)

    def test_equal_drawings(self):
        self.assertTrue(Drawing(ROWS[:3]) == Drawing(tuple(list(ROWS)[:3])))
        self.assertFalse(Drawing(ROWS[:3]) != Drawing(ROWS[:3]))
        self.assertTrue(Drawing(()) == Drawing(()))

    def test_drawings_of_other_pieces(self):
        self.assertFalse(Drawing(ROWS[:3]) == Drawing(ROWS[:2]))
        self.assertFalse(Drawing(ROWS[:3]) == Drawing(ROWS[1:4]))
        self.assertTrue(Drawing(ROWS[:1]) != Drawing(()))

    def test_the_order_of_pieces_counts(self):
        self.assertFalse(Drawing((ROWS[0], ROWS[1])) == Drawing((ROWS[1], ROWS[0])))

    def test_exchanged_ends_make_another_drawing(self):
        self.assertFalse(Drawing(((1, 2, 3, 4),)) == Drawing(((3, 4, 1, 2),)))
        self.assertTrue(Drawing(((1, 2, 3, 4),)) != Drawing(((3, 4, 1, 2),)))

    def test_a_drawing_and_something_else(self):
        for other in (((1, 2, 3, 4),), [(1, 2, 3, 4)], None, 1, "drawing", True):
            self.assertFalse(Drawing(((1, 2, 3, 4),)) == other)
            self.assertTrue(Drawing(((1, 2, 3, 4),)) != other)
        self.assertFalse(Drawing(()) == ())

    def test_methods_stand_in_the_class(self):
        self.assertIn("__len__", vars(Drawing))
        self.assertIn("__eq__", vars(Drawing))


class MeetingTest(unittest.TestCase):
    def test_either_way_about(self):
        drawing = Drawing(((0, 0, 8, 4), (0, 4, 8, 0), (0, 1, 3, 0)))
        self.assertEqual(meeting(drawing, 0, 2), ((6, 5), (3, 5)))
        self.assertEqual(meeting(drawing, 2, 0), ((6, 5), (3, 5)))
        self.assertEqual(meeting(drawing=drawing, one=0, other=1), ((4, 1), (2, 1)))

    def test_none_if_the_lines_meet_outside_of_a_piece(self):
        drawing = Drawing(((0, 0, 4, 4), (10, 0, 6, 4), (0, 8, 3, 5), (10, 10, 5, 5)))
        self.assertEqual([meeting(drawing, 0, other) for other in (1, 2, 3)], [None, None, None])
        self.assertEqual([meeting(drawing, other, 0) for other in (1, 2, 3)], [None, None, None])

    def test_zero_and_one_as_fractions(self):
        drawing = Drawing(((0, 0, 4, 0), (0, 5, 0, 0), (3, 0, 3, 1), (3, 1, 60, 60)))
        self.assertEqual(meeting(drawing, 0, 1), ((0, 1), (0, 1)))
        self.assertEqual(meeting(drawing, 2, 3), ((3, 1), (1, 1)))

    def test_lowest_terms(self):
        drawing = Drawing(((0, 0, 60, 59), (0, 60, 60, 0)))
        self.assertEqual(meeting(drawing, 0, 1), ((3600, 119), (3540, 119)))

    def test_parallel_pieces(self):
        self.assertIsNone(meeting(Drawing(((0, 0, 4, 4), (0, 1, 4, 5))), 0, 1))
        self.assertIsNone(meeting(Drawing(((0, 0, 4, 0), (4, 1, 0, 1))), 0, 1))

    def test_pieces_of_one_line(self):
        for one in ((0, 0, 4, 2), (4, 2, 0, 0)):
            for other in ((4, 2, 8, 4), (8, 4, 4, 2)):
                self.assertEqual(meeting(Drawing((one, other)), 0, 1), ((4, 1), (2, 1)))
                self.assertEqual(meeting(Drawing((other, one)), 0, 1), ((4, 1), (2, 1)))
            self.assertIsNone(meeting(Drawing((one, (6, 3, 8, 4))), 0, 1))

    def test_an_end_on_the_other_piece(self):
        drawing = Drawing(((0, 0, 9, 6), (3, 2, 3, 9), (7, 0, 9, 6)))
        self.assertEqual(meeting(drawing, 0, 1), ((3, 1), (2, 1)))
        self.assertEqual(meeting(drawing, 2, 0), ((9, 1), (6, 1)))

    def test_all_pairs_of_small_pieces(self):
        pieces = oracle.pieces_up_to(2) + [(0, 1, 3, 2), (3, 0, 1, 3), (1, 3, 2, 0), (3, 3, 0, 2)]
        for one in pieces:
            for other in pieces:
                point = oracle.shared(one, other)
                if point == "more":
                    self.assertEqual(wrong_index((one, other)), 1, (one, other))
                else:
                    drawing = Drawing((one, other))
                    self.assertEqual(meeting(drawing, 0, 1), point, (one, other))
                    self.assertEqual(meeting(drawing, 1, 0), point, (one, other))

    def test_unknown_pieces(self):
        drawing = Drawing(ROWS[:2])
        for one, other in ((2, 0), (0, 2), (-1, 0), (1, -1), (-2, -1), (9, 60)):
            with self.assertRaises(UnknownPiece):
                meeting(drawing, one, other)

    def test_a_drawing_without_pieces(self):
        self.assertEqual(meetings(Drawing(())), [])
        with self.assertRaises(UnknownPiece):
            meeting(Drawing(()), 0, 1)

    def test_the_same_piece_twice(self):
        for index in (0, 1):
            with self.assertRaises(SamePiece):
                meeting(Drawing(ROWS[:2]), index, index)

    def test_an_unknown_piece_comes_first(self):
        for index in (-1, 2):
            with self.assertRaises(UnknownPiece):
                meeting(Drawing(ROWS[:2]), index, index)


class MeetingsTest(unittest.TestCase):
    def test_each_point_once(self):
        star = Drawing(((0, 0, 8, 8), (0, 8, 8, 0), (4, 0, 4, 8), (0, 4, 8, 4)))
        self.assertEqual(meetings(star), [((4, 1), (4, 1))])

    def test_no_points(self):
        self.assertEqual(meetings(Drawing(ROWS[:6])), [])
        self.assertEqual(meetings(Drawing(ROWS[:1])), [])

    def test_ascending_by_value_and_not_by_numerator(self):
        drawing = Drawing(((0, 1, 60, 1), (1, 0, 3, 3), (1, 4, 2, 0), (2, 0, 2, 9), (0, 0, 1, 3), (3, 0, 2, 7)))
        found = [x for x, y in meetings(drawing) if y == (1, 1)]
        self.assertEqual(found, [(1, 3), (5, 3), (7, 4), (2, 1), (20, 7)])

    def test_equal_first_fractions_are_followed_by_the_second_ones(self):
        drawing = Drawing(((3, 0, 3, 60), (0, 9, 6, 10), (2, 7, 4, 4), (0, 10, 6, 10), (0, 4, 7, 5)))
        points = [point for point in meetings(drawing) if point[0] == (3, 1)]
        self.assertEqual([y for _, y in points], [(31, 7), (11, 2), (19, 2), (10, 1)])

    def test_second_fractions_ascend_by_value(self):
        drawing = Drawing(((3, 0, 3, 60), (0, 30, 7, 31), (2, 20, 4, 21), (0, 10, 5, 11), (1, 4, 5, 5)))
        self.assertEqual(meetings(drawing), [((3, 1), y) for y in ((9, 2), (53, 5), (41, 2), (213, 7))])

    def test_as_all_pairs_tell(self):
        drawing = Drawing(((0, 0, 9, 7), (9, 0, 0, 7), (5, 0, 3, 9), (0, 3, 9, 4), (9, 7, 0, 6), (1, 0, 8, 8)))
        pairs = [(one, other) for one in range(6) for other in range(one + 1, 6)]
        points = {meeting(drawing, one, other) for one, other in pairs} - {None}
        expected = sorted(points, key=lambda point: [oracle.Fraction(*value) for value in point])
        self.assertGreater(len(expected), 9)
        self.assertEqual(meetings(drawing), expected)

    def test_the_caller_may_change_the_list(self):
        drawing = Drawing(((0, 0, 8, 4), (0, 4, 8, 0)))
        meetings(drawing).clear()
        self.assertEqual(meetings(drawing), [((4, 1), (2, 1))])


if __name__ == "__main__":
    unittest.main()
