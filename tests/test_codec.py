"""Promises 1 and 28: codes of drawings."""

import unittest

from ledlines.codec import decode_drawing, encode_drawing
from ledlines.drawings import Drawing
from ledlines.errors import DecodeError, InvalidDrawing
from samples import samples

ANGLE = Drawing(((0, 0, 12, 0), (4, 0, 4, 8)))
SIX = Drawing(((0, 0, 60, 47), (60, 3, 5, 60), (33, 0, 20, 60), (0, 31, 60, 30), (60, 47, 0, 41), (7, 0, 53, 58)))
NOTHING = Drawing(())
NO_NUMBERS = (None, "5", "", (5,), [5], True, False, b"m")


def with_checksum(values):
    """Return a list with a checksum behind it, by a sum of powers instead of one item after the other."""
    many = len(values)
    total = 13 * 23 ** many + sum(value * 23 ** (many - 1 - at) for at, value in enumerate(values))
    return values + [total % 211]


class EncodeTest(unittest.TestCase):
    def test_items(self):
        self.assertEqual(encode_drawing(Drawing(((1, 2, 3, 4),))), [109, 1, 1, 2, 3, 4, 74])
        self.assertEqual(encode_drawing(drawing=ANGLE), with_checksum([109, 2, 0, 0, 12, 0, 4, 0, 4, 8]))

    def test_no_piece(self):
        # 23 * 13 + 109 leaves 197, and 23 * 197 leaves 100.
        self.assertEqual(encode_drawing(NOTHING), [109, 0, 100])

    def test_six_pieces(self):
        values = encode_drawing(SIX)
        self.assertEqual((len(values), values[:6]), (27, [109, 6, 0, 0, 60, 47]))

    def test_samples(self):
        for pieces in samples():
            expected = with_checksum([109, len(pieces)] + [number for piece in pieces for number in piece])
            self.assertEqual(encode_drawing(Drawing(pieces)), expected)

    def test_the_caller_may_change_the_list(self):
        encode_drawing(ANGLE).clear()
        self.assertEqual(len(encode_drawing(ANGLE)), 11)


class DecodeTest(unittest.TestCase):
    def wrong(self, values, offset):
        before = list(values)
        with self.assertRaises(DecodeError) as caught:
            decode_drawing(values)
        self.assertEqual((caught.exception.offset, values), (offset, before))

    def test_a_drawing_comes_back(self):
        for pieces in samples() + [SIX.pieces, ANGLE.pieces, ()]:
            values = encode_drawing(Drawing(pieces))
            before = list(values)
            self.assertEqual(decode_drawing(values), Drawing(pieces))
            self.assertEqual(decode_drawing(values=values).pieces, pieces)
            self.assertEqual(values, before)

    def test_the_list_is_not_kept(self):
        values = encode_drawing(ANGLE)
        drawing = decode_drawing(values)
        values[2] = 55
        self.assertEqual(drawing, ANGLE)

    def test_the_first_item(self):
        for value in (108, 110, 0, -109, 255, 109 + 211) + NO_NUMBERS:
            self.wrong([value, 0, 100], 0)
            self.wrong([value], 0)
            self.wrong([value, 7, 61], 0)

    def test_the_number_of_pieces(self):
        for value in (7, -1, 8, 255, 1000) + NO_NUMBERS:
            self.wrong([109, value], 1)
            self.wrong([109, value, 0, 0, 1, 1, 5], 1)

    def test_numbers_of_pieces(self):
        for drawing in (ANGLE, SIX):
            right = encode_drawing(drawing)
            for at in range(2, len(right) - 1):
                for value in (61, -1, 109, 255) + NO_NUMBERS:
                    self.wrong(right[:at] + [value] + right[at + 1:], at)
                    self.wrong(right[:at] + [value], at)
                    self.wrong(right[:at] + [value, "x", None], at)

    def test_numbers_out_of_range_with_their_checksum(self):
        for value in (61, -1, 200):
            for at in range(2, 6):
                values = [109, 1, 1, 2, 3, 4]
                values[at] = value
                self.wrong(with_checksum(values), at)

    def test_wrong_checksums(self):
        for drawing in (NOTHING, ANGLE, SIX):
            right = encode_drawing(drawing)
            for value in (right[-1] + 1, right[-1] - 1, right[-1] + 211, right[-1] - 211, -1, 211, 255) + NO_NUMBERS:
                self.wrong(right[:-1] + [value], len(right) - 1)
                self.wrong(right[:-1] + [value, 1], len(right) - 1)

    def test_a_boolean_is_no_checksum(self):
        # Among these pieces are some with the checksums 0 and 1.
        found = {}
        for x in range(61):
            for y in range(1, 61):
                values = encode_drawing(Drawing(((0, 0, x, y),)))
                found.setdefault(values[-1], values)
        for checksum in (0, 1):
            self.assertEqual(decode_drawing(found[checksum]).pieces, (tuple(found[checksum][2:6]),))
            self.wrong(found[checksum][:-1] + [bool(checksum)], 6)

    def test_items_behind_the_checksum(self):
        for drawing in (NOTHING, ANGLE, SIX):
            right = encode_drawing(drawing)
            for more in ([0], [109], right[-1:], [None], [1, 2, 3], ["x", 0]):
                self.wrong(right + more, len(right))

    def test_missing_items(self):
        for drawing in (NOTHING, ANGLE, SIX):
            right = encode_drawing(drawing)
            for many in range(len(right)):
                self.wrong(right[:many], many)

    def test_no_drawing(self):
        for pieces, index in ((((3, 3, 3, 3),), 0), (((0, 0, 4, 4), (2, 2, 6, 6)), 1),
                              (((0, 0, 4, 4), (9, 9, 9, 8), (4, 4, 0, 0), (1, 1, 1, 1)), 2)):
            values = [109, len(pieces)] + [number for piece in pieces for number in piece]
            with self.assertRaises(InvalidDrawing) as caught:
                decode_drawing(with_checksum(values))
            self.assertEqual(caught.exception.index, index)
            # A wrong code comes first.
            self.wrong(with_checksum(values)[:-1] + [255], len(values))
            self.wrong(with_checksum(values) + [0], len(values) + 1)
            self.wrong(values, len(values))


class KindsTest(unittest.TestCase):
    def test_kinds_of_results(self):
        self.assertEqual({type(value) for value in encode_drawing(SIX)}, {int})
        self.assertIs(type(encode_drawing(SIX)), list)
        drawing = decode_drawing(encode_drawing(ANGLE))
        self.assertEqual([type(drawing), type(drawing.pieces), type(drawing.pieces[0])], [Drawing, tuple, tuple])

    def test_items_are_bytes(self):
        for pieces in samples():
            self.assertTrue(all(0 <= value <= 255 for value in encode_drawing(Drawing(pieces))))

    def test_functions_are_defined_in_the_file(self):
        for function in (encode_drawing, decode_drawing):
            self.assertEqual(function.__module__, "ledlines.codec")


if __name__ == "__main__":
    unittest.main()
