"""The examples of the document, word for word."""

import unittest

from examples import run_example

MEETINGS = '''
>>> from ledlines.drawings import Drawing, meeting, meetings
>>> drawing = Drawing(((0, 0, 8, 4), (0, 4, 8, 0), (0, 1, 3, 0)))
>>> [meeting(drawing, 1, 0), meeting(drawing, 1, 2), meetings(drawing), len(drawing)]
[((4, 1), (2, 1)), None, [((6, 5), (3, 5)), ((4, 1), (2, 1))], 3]
'''

WRONG_DRAWING = '''
>>> from ledlines.drawings import Drawing
>>> Drawing(((0, 0, 4, 4), (2, 2, 6, 6)))
raises InvalidDrawing(index=1)
'''

CELLS = '''
>>> from ledlines.cells import chains, hot_cells, reasons, row_of
>>> from ledlines.drawings import Drawing
>>> drawing = Drawing(((0, 0, 8, 4), (0, 4, 8, 0)))
>>> [hot_cells(drawing, 2), reasons(drawing, 2)[1, 1], chains(drawing, 2), row_of(drawing, 2, 0)]
[((0, 0), (0, 1), (1, 1), (2, 0), (2, 1)), ((0, 1, 2),), [((0, 0), (1, 1), (2, 1)), ((0, 1), (1, 1), (2, 0))], ((0, 0), (1, 0), (1, 1), (2, 1))]
'''

WRONG_HALF = '''
>>> from ledlines.cells import chain
>>> from ledlines.drawings import Drawing
>>> chain(Drawing(((0, 0, 8, 4),)), 31, 0)
raises InvalidHalf()
'''


class ExamplesTest(unittest.TestCase):
    def test_examples(self):
        for text in (MEETINGS, WRONG_DRAWING, CELLS, WRONG_HALF):
            with self.subTest(text=text):
                found, expected = run_example(text)
                self.assertEqual(found, expected)

    def test_a_wrong_example_is_found(self):
        found, expected = run_example(WRONG_DRAWING.replace("index=1", "index=0"))
        self.assertNotEqual(found, expected)


if __name__ == "__main__":
    unittest.main()
