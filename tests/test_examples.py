"""The examples of the document, word for word."""

import unittest

from examples import run_example

MEETINGS = '''
>>> from ledlines.drawings import Drawing, meeting, meetings
>>> drawing = Drawing(((0, 0, 8, 4), (0, 4, 8, 0), (0, 1, 3, 0)))
>>> [meeting(drawing, 1, 0), meeting(drawing, 1, 2), meetings(drawing), len(drawing)]
[((4, 1), (2, 1)), None, [((6, 5), (3, 5)), ((4, 1), (2, 1))], 3]
'''

WRONG_DRAWING = '''
>>> from ledlines.drawings import Drawing
>>> Drawing(((0, 0, 4, 4), (2, 2, 6, 6)))
raises InvalidDrawing(index=1)
'''

CELLS = '''
>>> from ledlines.cells import chains, hot_cells, reasons, row_of
>>> from ledlines.drawings import Drawing
>>> drawing = Drawing(((0, 0, 8, 4), (0, 4, 8, 0)))
>>> [hot_cells(drawing, 2), reasons(drawing, 2)[1, 1], chains(drawing, 2), row_of(drawing, 2, 0)]
[((0, 0), (0, 1), (1, 1), (2, 0), (2, 1)), ((0, 1, 2),), [((0, 0), (1, 1), (2, 1)), ((0, 1), (1, 1), (2, 0))], ((0, 0), (1, 0), (1, 1), (2, 1))]
'''

WRONG_HALF = '''
>>> from ledlines.cells import chain
>>> from ledlines.drawings import Drawing
>>> chain(Drawing(((0, 0, 8, 4),)), 31, 0)
raises InvalidHalf()
'''

FALLING = '''
>>> from ledlines.drawings import Drawing
>>> from ledlines.falling import apart_halves, edges, greatest_half, on_cell, order_on, together
>>> drawing, beside = Drawing(((0, 0, 8, 4), (0, 4, 8, 0))), Drawing(((0, 0, 8, 0), (0, 6, 8, 6)))
>>> told = [together(drawing, 2), together(beside, 7), on_cell(drawing, 2, (1, 1)), greatest_half(drawing)]
>>> told = told + [apart_halves(beside, 0, 1), order_on(drawing, 0)]
>>> told + [edges(drawing, 2)]
[[], [(0, 1)], (0, 1), 2, [1, 2, 3, 4, 5, 6], (1,), {((0, 0), (1, 1)): (0,), ((0, 1), (1, 1)): (1,), ((1, 1), (2, 0)): (1,), ((1, 1), (2, 1)): (0,)}]
'''

SAME_PIECE = '''
>>> from ledlines.drawings import Drawing
>>> from ledlines.falling import apart_halves
>>> apart_halves(Drawing(((0, 0, 8, 4),)), 0, 0)
raises SamePiece()
'''

AGAIN = '''
>>> from ledlines.again import far_cells, led_again, still_after
>>> from ledlines.drawings import Drawing
>>> drawing = Drawing(((0, 0, 8, 4), (0, 4, 8, 0)))
>>> [led_again(drawing, 2, 1), still_after(drawing, 2), far_cells(drawing, 2)]
[[((0, 0), (1, 1), (2, 1)), ((0, 1), (1, 1), (2, 1), (2, 0))], 1, (1,)]
'''

WRONG_NUMBER = '''
>>> from ledlines.again import led_again
>>> from ledlines.drawings import Drawing
>>> led_again(Drawing(()), 2, 100)
raises InvalidNumber()
'''

CHANGES = '''
>>> from ledlines.changes import ends_alike, led_alike, parting_halves, put_in, same_end_halves, taken_out
>>> from ledlines.drawings import Drawing
>>> drawing, beside = Drawing(((0, 0, 8, 4), (0, 4, 8, 0))), Drawing(((0, 0, 8, 0), (0, 6, 8, 6)))
>>> moved = Drawing(((1, 0, 8, 0), (0, 6, 8, 6)))
>>> told = [put_in(beside, (0, 3, 8, 3), 2), taken_out(drawing, 1, 2), led_alike(beside, moved, 2)]
>>> told + [parting_halves(beside, moved), ends_alike(2, (5, 1)), same_end_halves((0, 0), (29, 0))]
[(((0, 1), (2, 1)), ()), (((0, 1), (1, 1), (2, 0)), (0,)), True, [1], ((2, 0), (5, 1)), [30]]
'''

WRONG_PIECE = '''
>>> from ledlines.changes import put_in
>>> from ledlines.drawings import Drawing
>>> put_in(Drawing(((0, 0, 8, 0),)), (1, 0, 5, 0), 2)
raises InvalidPiece()
'''

BOARDS = '''
>>> from ledlines.boards import fewest_hot, hot_between, hot_counts, regions, steps_between, touched
>>> from ledlines.drawings import Drawing
>>> one = Drawing(((0, 0, 12, 0), (4, 0, 4, 8)))
>>> found = [touched(one, 2), len(regions(one, 2)), steps_between(one, 2, (0, 1), (2, 1))]
>>> found + [hot_counts(one)[1], fewest_hot(one), hot_between(one, 1, 2)]
[((0, 0), (1, 0), (1, 1), (1, 2), (2, 0), (3, 0)), 1, 6, 4, (13, 1), ((0, 0), (4, 0), (4, 8), (12, 0))]
'''

WRONG_GRID = '''
>>> from ledlines.boards import touched
>>> from ledlines.drawings import Drawing
>>> touched(Drawing(()), 31)
raises InvalidHalf()
'''

MEASURES = '''
>>> from ledlines.measures import first_piece, moves_of, offsets, piece_count, shared_moves, whole_count, worst_offset
>>> from ledlines.drawings import Drawing
>>> one = Drawing(((0, 0, 3, 3), (0, 1, 9, 1)))
>>> found = [offsets(one, 1, 0), worst_offset(one, 5), moves_of(one, 1, 1), shared_moves(one, 5)]
>>> found + [piece_count(30, (0, 0), (1, 0)), first_piece(2, (1, 0), (0, 0)), whole_count(2, ((0, 0),))]
[[(0, 1), (0, 1), (2, 1)], ((2, 1), 1, (1, 0)), 5, 1, 837000, (2, 0, 0, 0), 12]
'''

WRONG_CELL = '''
>>> from ledlines.measures import piece_count
>>> piece_count(2, (0, 0), (16, 0))
raises InvalidCell()
'''

SKETCH = '''
>>> from ledlines.sketches import Sketch
>>> sketch = Sketch(2)
>>> found = sketch.apply_all([("put", (0, 0, 12, 0)), ("put", (4, 0, 4, 8)), ("turn", 0), ("regrid", 30), ("take", 1)])
>>> [found, sketch.hot_now, sketch.undo(), sketch.undo(), sketch.half_now, sketch.hot_now]
[[2, 2, ((3, 0), (1, 0), (0, 0)), 1, 0], ((0, 0),), True, True, 2, ((0, 0), (1, 0), (1, 2), (3, 0))]
'''

WRONG_PUT = '''
>>> from ledlines.sketches import Sketch
>>> Sketch(2).put((0, 0, 0, 0))
raises InvalidPiece()
'''

WATCHER = '''
>>> from ledlines.watching import Watcher
>>> from ledlines.drawings import Drawing
>>> watcher = Watcher((Drawing(((0, 0, 4, 0),)), Drawing(((0, 0, 8, 0),)), Drawing(((0, 0, 4, 0), (0, 0, 0, 8)))), 2)
>>> found = [watcher.sure_cells(), watcher.open_cells(), watcher.best_cell(), watcher.seen((1, 0), True)]
>>> found + [watcher.possible, watcher.best_cell(), watcher.told_so_far]
[((0, 0),), ((0, 2), (1, 0), (2, 0)), (0, 2), 2, (0, 2), (0, 2), [((1, 0), True)]]
'''

NO_DRAWING = '''
>>> from ledlines.watching import Watcher
>>> from ledlines.drawings import Drawing
>>> Watcher((Drawing(()),), 30).seen((0, 0), True)
raises NoDrawing()
'''

NOTATION = r'''
>>> from ledlines.notation import chain_text, format_drawing, parse_drawing, picture
>>> from ledlines.drawings import Drawing
>>> one = Drawing(((0, 0, 60, 0),))
>>> [picture(one, 15), chain_text(one, 15, 0), format_drawing(one), parse_drawing(format_drawing(one)) == one]
['...\n...\n#+#', '(0,0)-(2,0)', 'piece 0 0 60 0', True]
'''

WRONG_TEXT = '''
>>> from ledlines.notation import parse_drawing
>>> parse_drawing("piece 0 0 61 0")
raises InvalidText(row=0, word=3)
'''

CODE = '''
>>> from ledlines.codec import decode_drawing, encode_drawing
>>> from ledlines.drawings import Drawing
>>> values = encode_drawing(Drawing(((1, 2, 3, 4),)))
>>> [values, decode_drawing(values).pieces]
[[109, 1, 1, 2, 3, 4, 74], ((1, 2, 3, 4),)]
'''

WRONG_CODE = '''
>>> from ledlines.codec import decode_drawing
>>> decode_drawing([109, 7])
raises DecodeError(offset=1)
'''

SCRIPT = r'''
>>> from ledlines.scripts import run_script
>>> lines = ["put 0 0 12 0", "show", "when 3 0", "chain 0", "turn 0", "end", "repeat 2", "regrid 30", "end", "show"]
>>> sketch, output = run_script(2, "\n".join(lines))
>>> [output, sketch.drawing_now.pieces, len(sketch.history)]
[['2', '(0,0)-(3,0)', '1'], ((12, 0, 0, 0),), 4]
'''

FAILING_SCRIPT = '''
>>> from ledlines.scripts import run_script
>>> run_script(2, "take 0")
raises ExecutionFailed(row=0)
'''

EXAMPLES = (MEETINGS, WRONG_DRAWING, CELLS, WRONG_HALF, FALLING, SAME_PIECE, AGAIN, WRONG_NUMBER, CHANGES, WRONG_PIECE,
            BOARDS, WRONG_GRID, MEASURES, WRONG_CELL, SKETCH, WRONG_PUT, WATCHER, NO_DRAWING, NOTATION, WRONG_TEXT,
            CODE, WRONG_CODE, SCRIPT, FAILING_SCRIPT)


class ExamplesTest(unittest.TestCase):
    def test_examples(self):
        for text in EXAMPLES:
            with self.subTest(text=text):
                found, expected = run_example(text)
                self.assertEqual(found, expected)

    def test_a_wrong_example_is_found(self):
        found, expected = run_example(WRONG_DRAWING.replace("index=1", "index=0"))
        self.assertNotEqual(found, expected)


if __name__ == "__main__":
    unittest.main()
