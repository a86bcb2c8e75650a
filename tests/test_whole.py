"""Promise 1 over the whole program: what is passed and what is returned stays apart, and calls can be repeated."""

import inspect
import unittest
from copy import deepcopy
from importlib import import_module

from ledlines import errors
from ledlines.drawings import Drawing
from ledlines.errors import LineError
from ledlines.sketches import Sketch
from ledlines.watching import Watcher

PIECES = ((0, 0, 8, 4), (0, 4, 8, 0), (30, 0, 30, 60), (0, 30, 60, 30))
OTHER_PIECES = ((0, 0, 8, 5), (0, 4, 9, 0), (30, 0, 31, 60), (0, 30, 60, 29))
TEXT = "piece 0 0 8 4\npiece 0 4 8 0"
CODE = [109, 1, 1, 2, 3, 4, 74]
# For each file: a function, arguments that it takes, and such with which it raises an error; "D" and "E" are drawings.
CALLS = {
    "drawings": (("meeting", ("D", 0, 1), ("D", 0, 9)), ("meetings", ("D",), None)),
    "cells": (("hot_cells", ("D", 2), ("D", 0)), ("reasons", ("D", 2), ("D", 31)), ("chain", ("D", 2, 3), ("D", 2, 4)),
              ("chains", ("D", 2), ("D", 0)), ("row_of", ("D", 2, 3), ("D", 2, -1))),
    "falling": (("together", ("D", 30), ("D", 0)), ("on_cell", ("D", 2, (1, 1)), ("D", 0, (1, 1))),
                ("greatest_half", ("D",), None), ("apart_halves", ("D", 0, 3), ("D", 0, 0)),
                ("order_on", ("D", 2), ("D", 4)), ("edges", ("D", 2), ("D", 0))),
    "again": (("led_again", ("D", 2, 3), ("D", 2, 100)), ("still_after", ("D", 2), ("D", 0)),
              ("far_cells", ("D", 2), ("D", 0))),
    "changes": (("put_in", ("D", (9, 9, 40, 40), 2), ("D", (0, 0, 8, 4), 2)), ("taken_out", ("D", 1, 2), ("D", 4, 2)),
                ("led_alike", ("D", "E", 2), ("D", "E", 0)), ("parting_halves", ("D", "E"), None),
                ("ends_alike", (2, (5, 1)), (2, (61, 1))), ("same_end_halves", ((0, 0), (5, 5)), ((0, 0), (61, 5)))),
    "boards": (("touched", ("D", 2), ("D", 0)), ("regions", ("D", 2), ("D", 0)),
               ("steps_between", ("D", 2, (0, 5), (5, 0)), ("D", 2, (0, 0), (5, 0))), ("hot_counts", ("D",), None),
               ("fewest_hot", ("D",), None), ("hot_between", ("D", 1, 9), ("D", 9, 1))),
    "measures": (("offsets", ("D", 3, 0), ("D", 3, 4)), ("worst_offset", ("D", 3), ("D", 0)),
                 ("moves_of", ("D", 3, 0), ("D", 3, 4)), ("shared_moves", ("D", 3), ("D", 0)),
                 ("piece_count", (2, (0, 0), (3, 3)), (2, (0, 0), (16, 0))),
                 ("first_piece", (2, (0, 0), (3, 3)), (2, (0, 0), (16, 0))),
                 ("whole_count", (2, ((0, 0), (3, 3))), (2, ((3, 3), (0, 0))))),
    "notation": (("picture", ("D", 2), ("D", 0)), ("chain_text", ("D", 2, 0), ("D", 2, 4)),
                 ("format_drawing", ("D",), None), ("parse_drawing", (TEXT,), (TEXT + " 0",))),
    "codec": (("encode_drawing", ("D",), None), ("decode_drawing", (CODE,), (CODE + [0],))),
    "scripts": (("run_script", (2, "put 0 0 9 9\nshow"), (2, "take 0")),),
}


def comparable(value):
    """Return a value by which results can be compared and kept."""
    if isinstance(value, Sketch):
        return [value.drawing_now.pieces, value.half_now, value.history]
    if isinstance(value, Drawing):
        return value.pieces
    if isinstance(value, tuple):
        return tuple(comparable(item) for item in value)
    return deepcopy(value)


def spoil(value):
    """Change all lists and dicts in a result."""
    if isinstance(value, (list, tuple)):
        for item in value:
            spoil(item)
    if isinstance(value, list):
        value.append("spoilt")
    if isinstance(value, dict):
        value.clear()


class WholeTest(unittest.TestCase):
    def calls(self):
        """Return a list of (function, its arguments, wrong arguments, the drawings among them)."""
        found = []
        for module, rows in CALLS.items():
            for name, right, wrong in rows:
                drawings = {"D": Drawing(PIECES), "E": Drawing(OTHER_PIECES)}
                function = getattr(import_module("ledlines." + module), name)
                for arguments in (right, wrong):
                    if arguments is not None:
                        taken = [drawings.get(value, value) if isinstance(value, str) else value for value in arguments]
                        found.append((function, taken, arguments is wrong, drawings))
        return found

    def test_results_are_equal_and_may_be_changed(self):
        for function, arguments, is_wrong, _ in self.calls():
            if not is_wrong:
                with self.subTest(function=function.__name__):
                    result = function(*arguments)
                    first = comparable(result)
                    spoil(result)
                    self.assertEqual(comparable(function(*arguments)), first)
                    self.assertEqual(comparable(function(*arguments)), first)

    def test_arguments_stay_as_they_were(self):
        for function, arguments, is_wrong, drawings in self.calls():
            with self.subTest(function=function.__name__, is_wrong=is_wrong):
                before = comparable(arguments)
                if is_wrong:
                    with self.assertRaises(LineError):
                        function(*arguments)
                else:
                    function(*arguments)
                self.assertEqual(comparable(arguments), before)
                self.assertEqual([drawings["D"].pieces, drawings["E"].pieces], [PIECES, OTHER_PIECES])

    def test_an_error_can_be_repeated_and_changes_nothing(self):
        right = {function: arguments for function, arguments, is_wrong, _ in self.calls() if not is_wrong}
        for function, arguments, is_wrong, _ in self.calls():
            if is_wrong:
                before = comparable(function(*right[function]))
                told = []
                for _ in range(2):
                    with self.assertRaises(LineError) as caught:
                        function(*arguments)
                    told.append((type(caught.exception), vars(caught.exception)))
                self.assertEqual(told[0], told[1])
                self.assertEqual(comparable(function(*right[function])), before)

    def test_a_list_that_is_passed_may_be_changed_behind_a_call(self):
        operations = [("put", (0, 0, 9, 9)), ("keep_as", "a")]
        sketch = Sketch.replay(2, operations)
        sketch.apply_all(operations[1:])
        sketch.tried_out(operations[1:], True)
        operations.clear()
        self.assertEqual(sketch.history, [("put", (0, 0, 9, 9))] + [("keep_as", "a")] * 3)

    def test_drawings_that_are_watched_stay_as_they_were(self):
        drawings = (Drawing(PIECES), Drawing(OTHER_PIECES))
        watcher = Watcher(drawings, 2)
        while watcher.best_cell() is not None:
            watcher.seen(watcher.best_cell(), True)
        self.assertEqual([drawing.pieces for drawing in drawings], [PIECES, OTHER_PIECES])

    def test_all_of_the_interface_is_called(self):
        names = [name for rows in CALLS.values() for name, _, _ in rows]
        self.assertEqual((len(names), len(set(names))), (42, 42))
        for module, rows in CALLS.items():
            for name, right, _ in rows:
                function = getattr(import_module("ledlines." + module), name)
                self.assertEqual(function.__module__, "ledlines." + module)
                self.assertEqual(len(inspect.signature(function).parameters), len(right), name)

    def test_each_error_is_a_direct_subclass_of_the_base(self):
        found = [value for value in vars(errors).values() if inspect.isclass(value) and value is not LineError]
        self.assertEqual([value.__bases__ for value in found], [(LineError,)] * 19)


if __name__ == "__main__":
    unittest.main()
