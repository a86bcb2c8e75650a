"""Promises 1, 22 and 23: a sketch, its operations, undo and redo, lists of operations, and trials."""

import unittest
from contextlib import suppress
from itertools import product
from random import Random

from ledlines import errors
from ledlines.drawings import Drawing
from ledlines.errors import InvalidHalf, InvalidName, InvalidOperation, InvalidPiece, UnknownKept, UnknownPiece
from ledlines.sketches import Sketch, Trial
from model import Model, Refused, random_operation

WRONG_HALVES = (0, 31, -1, -30, 60, True, False)
WRONG_NAMES = ("", "abcdefghi", "A", "aB", "a1", "a b", " ", "a_b", "a-b", "a\n", "\u00e4", "abcdefg\u00df", "`", "{")
WRONG_PIECES = ((), (1,), (1, 2, 3), (1, 2, 3, 4, 5), (0, 0, 61, 0), (0, -1, 5, 5), (3, 3, 3, 3), (True, 0, 5, 5),
                (5, 5, 9, False), (4, 0, 8, 0), (0, 0, 12, 0), (12, 0, 0, 0))
WRONG_INDEXES = (-1, 2, 6, True, False)
WRONG_OPERATIONS = ((), ("put",), ("put", (0, 0, 1, 1), 1), ("take",), ("turn", 0, 0), ("regrid",), ("keep_as",),
                    ("fetch", "a", "b"), ("undo", 1), ("redo", ()), ("history",), ("apply_all", []), ("tried_out", 1),
                    ("replay", 2), ("hold",), ("", 1), ("Put", (0, 0, 1, 1)), ("puts", (0, 0, 1, 1)), ("drawing_now",),
                    ("change", "put"), ("execute", ("undo",)), (1, 2), (None, 1), ([], 1), ((), 1), (("put",), 1),
                    ["undo"], ["take", 0], "undo", "put", None, 5, ("__init__", 2))


def angle():
    """Return a sketch of two pieces at the half 2."""
    return Sketch.replay(2, [("put", (0, 0, 12, 0)), ("put", (4, 0, 4, 8))])


def told(sketch):
    """Return all that a sketch tells."""
    return [sketch.drawing_now.pieces, sketch.half_now, sketch.hot_now, sketch.kept_under, sketch.history]


def to_the_end(sketch):
    """Return all that a sketch tells, and what it tells after each redo, and then after each undo."""
    found = [told(sketch)]
    while sketch.redo():
        found.append(told(sketch))
    while sketch.undo():
        found.append(told(sketch))
    return found


class SketchTest(unittest.TestCase):
    def test_at_first(self):
        for half in (1, 2, 30):
            self.assertEqual(told(Sketch(half)), [(), half, (), [], []])
        self.assertEqual(Sketch(half=7).drawing_now, Drawing(()))

    def test_wrong_halves(self):
        for half in WRONG_HALVES:
            with self.assertRaises(InvalidHalf):
                Sketch(half)

    def test_sketches_are_apart(self):
        one, other = Sketch(2), Sketch(2)
        one.put((0, 0, 5, 5))
        one.keep_as("a")
        self.assertEqual(told(other), [(), 2, (), [], []])
        with self.assertRaises(UnknownKept):
            other.fetch("a")

    def test_properties(self):
        sketch = angle()
        sketch.keep_as("b")
        sketch.keep_as("a")
        history = [("put", (0, 0, 12, 0)), ("put", (4, 0, 4, 8)), ("keep_as", "b"), ("keep_as", "a")]
        expected = [((0, 0, 12, 0), (4, 0, 4, 8)), 2, ((0, 0), (1, 0), (1, 2), (3, 0)), ["a", "b"], history]
        self.assertEqual(told(sketch), expected)
        self.assertEqual([type(value) for value in told(sketch)], [tuple, int, tuple, list, list])
        self.assertIsInstance(sketch.drawing_now, Drawing)

    def test_lists_are_new_for_each_reading(self):
        sketch = angle()
        sketch.keep_as("a")
        sketch.history.clear()
        sketch.kept_under.append("b")
        self.assertEqual((len(sketch.history), sketch.kept_under), (3, ["a"]))
        self.assertIsNot(sketch.history, sketch.history)
        self.assertIsNot(sketch.kept_under, sketch.kept_under)
        sketch.undo()
        self.assertEqual((len(sketch.history), sketch.kept_under), (2, []))

    def test_a_list_stays_as_it_was_read(self):
        sketch = angle()
        before, drawing = sketch.history, sketch.drawing_now
        sketch.take(0)
        self.assertEqual(before, [("put", (0, 0, 12, 0)), ("put", (4, 0, 4, 8))])
        self.assertEqual(drawing, Drawing(((0, 0, 12, 0), (4, 0, 4, 8))))


class OperationsTest(unittest.TestCase):
    def test_put(self):
        sketch = Sketch(2)
        self.assertEqual([sketch.put((0, 0, 12, 0)), sketch.put(piece=(4, 0, 4, 8))], [2, 2])
        self.assertEqual(sketch.put((0, 1, 12, 1)), 0)
        self.assertEqual(sketch.drawing_now, Drawing(((0, 0, 12, 0), (4, 0, 4, 8), (0, 1, 12, 1))))

    def test_put_on_a_coarse_grid(self):
        sketch = Sketch(30)
        self.assertEqual([sketch.put((0, 0, 12, 0)), sketch.put((1, 1, 9, 3)), sketch.put((60, 60, 0, 60))], [1, 0, 2])

    def test_put_up_to_six_pieces(self):
        sketch = Sketch(1)
        for y in range(6):
            self.assertEqual(sketch.put((0, 9 * y, 60, 9 * y)), 2)
        before = told(sketch)
        with self.assertRaises(InvalidPiece):
            sketch.put((0, 60, 60, 60))
        self.assertEqual(told(sketch), before)
        sketch.take(5)
        self.assertEqual(sketch.put((0, 60, 60, 60)), 2)

    def test_put_wrong_pieces(self):
        sketch = angle()
        before = told(sketch)
        for piece in WRONG_PIECES:
            with self.assertRaises(InvalidPiece):
                sketch.put(piece)
            self.assertEqual(told(sketch), before)

    def test_take(self):
        sketch = angle()
        self.assertEqual(sketch.take(index=0), 2)
        self.assertEqual(sketch.drawing_now, Drawing(((4, 0, 4, 8),)))
        self.assertEqual(sketch.take(0), 2)
        self.assertEqual(told(sketch)[:3], [(), 2, ()])

    def test_take_cells_that_stay_hot(self):
        sketch = angle()
        sketch.regrid(30)
        self.assertEqual([sketch.take(1), sketch.take(0)], [0, 1])

    def test_turn(self):
        sketch = angle()
        self.assertEqual(sketch.turn(0), ((3, 0), (1, 0), (0, 0)))
        self.assertEqual(sketch.drawing_now, Drawing(((12, 0, 0, 0), (4, 0, 4, 8))))
        self.assertEqual(sketch.turn(index=1), ((1, 2), (1, 0)))
        self.assertEqual(sketch.turn(0), ((0, 0), (1, 0), (3, 0)))
        self.assertEqual(sketch.drawing_now, Drawing(((0, 0, 12, 0), (4, 8, 4, 0))))

    def test_turn_a_slanted_piece(self):
        sketch = Sketch.replay(5, [("put", (1, 2, 30, 40))])
        sketch.turn(0)
        self.assertEqual(sketch.drawing_now.pieces, ((30, 40, 1, 2),))

    def test_unknown_pieces(self):
        for sketch in (angle(), Sketch(2)):
            before = told(sketch)
            for action in (sketch.take, sketch.turn):
                for index in WRONG_INDEXES + (0,) * (before[0] == ()):
                    with self.assertRaises(UnknownPiece):
                        action(index)
                    self.assertEqual(told(sketch), before)

    def test_regrid(self):
        sketch = angle()
        self.assertEqual([sketch.regrid(half) for half in (1, 5, 9, 13, 30, 30)], [4, 3, 2, 1, 1, 1])
        self.assertEqual((sketch.half_now, sketch.hot_now), (30, ((0, 0),)))
        self.assertEqual(sketch.regrid(half=2), 4)
        self.assertEqual(Sketch(2).regrid(1), 0)

    def test_regrid_wrong_halves(self):
        sketch = angle()
        before = told(sketch)
        for half in WRONG_HALVES:
            with self.assertRaises(InvalidHalf):
                sketch.regrid(half)
            self.assertEqual(told(sketch), before)

    def test_keep_and_fetch(self):
        sketch = angle()
        self.assertIs(sketch.keep_as("here"), False)
        sketch.take(0)
        sketch.regrid(30)
        self.assertEqual(sketch.fetch("here"), 2)
        self.assertEqual(told(sketch)[:4], [((0, 0, 12, 0), (4, 0, 4, 8)), 2, angle().hot_now, ["here"]])
        self.assertEqual(sketch.history[2:], [("keep_as", "here"), ("take", 0), ("regrid", 30), ("fetch", "here")])

    def test_what_is_kept_stays(self):
        sketch = Sketch(3)
        sketch.keep_as(name="none")
        sketch.put((0, 0, 9, 9))
        sketch.keep_as("one")
        self.assertEqual([sketch.fetch(name="none"), sketch.fetch("one"), sketch.fetch("none")], [0, 1, 0])
        self.assertEqual((sketch.kept_under, sketch.drawing_now), (["none", "one"], Drawing(())))

    def test_keep_over_again(self):
        sketch = Sketch(2)
        self.assertIs(sketch.keep_as("a"), False)
        sketch.put((0, 0, 9, 9))
        self.assertIs(sketch.keep_as("a"), True)
        self.assertIs(sketch.keep_as("a"), True)
        self.assertIs(sketch.keep_as("b"), False)
        sketch.take(0)
        self.assertEqual([sketch.fetch("a"), sketch.kept_under], [1, ["a", "b"]])

    def test_keep_over_again_undone(self):
        sketch = Sketch(2)
        sketch.keep_as("a")
        sketch.put((0, 0, 9, 9))
        sketch.keep_as("a")
        sketch.undo()
        self.assertEqual(sketch.fetch("a"), 0)
        sketch.undo()
        self.assertIs(sketch.keep_as("a"), True)
        self.assertEqual(sketch.fetch("a"), 1)

    def test_names(self):
        sketch = Sketch(2)
        for name in ("a", "z", "abcdefgh", "zzzzzzzz", "put", "undo"):
            self.assertIs(sketch.keep_as(name), False)
        self.assertEqual(sketch.kept_under, ["a", "abcdefgh", "put", "undo", "z", "zzzzzzzz"])
        before = told(sketch)
        for name in WRONG_NAMES:
            with self.assertRaises(InvalidName):
                sketch.keep_as(name)
            with self.assertRaises(UnknownKept):
                sketch.fetch(name)
            self.assertEqual(told(sketch), before)

    def test_nothing_is_kept_under_a_name(self):
        sketch = angle()
        sketch.keep_as("a")
        for name in ("b", "aa", "", "A"):
            with self.assertRaises(UnknownKept):
                sketch.fetch(name)
        self.assertEqual(len(sketch.history), 3)

    def test_nothing_is_kept_if_it_was_undone(self):
        sketch = angle()
        sketch.keep_as("a")
        sketch.undo()
        self.assertEqual(sketch.kept_under, [])
        with self.assertRaises(UnknownKept):
            sketch.fetch("a")
        self.assertIs(sketch.redo(), True)
        self.assertEqual((sketch.fetch("a"), sketch.kept_under), (2, ["a"]))

    def test_fetching_does_not_bring_back_names(self):
        sketch = Sketch(2)
        sketch.keep_as("a")
        sketch.keep_as("b")
        sketch.fetch("a")
        self.assertEqual((sketch.kept_under, sketch.fetch("b")), (["a", "b"], 0))


class UndoTest(unittest.TestCase):
    def test_nothing_to_undo_or_to_redo(self):
        sketch = Sketch(2)
        self.assertIs(sketch.undo(), False)
        self.assertIs(sketch.redo(), False)
        sketch.put((0, 0, 9, 9))
        self.assertIs(sketch.redo(), False)
        self.assertIs(sketch.undo(), True)
        self.assertIs(sketch.undo(), False)
        self.assertIs(sketch.redo(), True)
        self.assertIs(sketch.redo(), False)
        self.assertEqual(sketch.history, [("put", (0, 0, 9, 9))])

    def test_each_operation(self):
        sketch = Sketch(2)
        operations = [("put", (0, 0, 12, 0)), ("keep_as", "a"), ("put", (4, 0, 4, 8)), ("turn", 0), ("regrid", 9),
                      ("keep_as", "a"), ("take", 0), ("fetch", "a"), ("regrid", 9), ("keep_as", "b")]
        found = [told(sketch)]
        for operation in operations:
            sketch.apply_all([operation])
            found.append(told(sketch))
        for expected in found[-2::-1]:
            self.assertIs(sketch.undo(), True)
            self.assertEqual(told(sketch), expected)
        for expected in found[1:]:
            self.assertIs(sketch.redo(), True)
            self.assertEqual(told(sketch), expected)
        self.assertIs(sketch.redo(), False)

    def test_no_redo_behind_an_operation(self):
        for operation in (("put", (9, 9, 1, 1)), ("take", 0), ("turn", 0), ("regrid", 2), ("keep_as", "a")):
            sketch = angle()
            sketch.undo()
            sketch.apply_all([operation])
            self.assertIs(sketch.redo(), False)
            self.assertEqual(sketch.history, [("put", (0, 0, 12, 0)), operation])

    def test_no_redo_behind_a_fetch(self):
        sketch = angle()
        sketch.keep_as("a")
        sketch.put((9, 9, 1, 1))
        sketch.undo()
        sketch.fetch("a")
        self.assertIs(sketch.redo(), False)

    def test_redo_behind_an_operation_that_failed(self):
        sketch = angle()
        sketch.undo()
        for error, operation in ((InvalidPiece, ("put", ())), (UnknownPiece, ("take", 1)), (UnknownPiece, ("turn", 1)),
                                 (InvalidHalf, ("regrid", 0)), (InvalidName, ("keep_as", "")),
                                 (UnknownKept, ("fetch", "a"))):
            with self.assertRaises(error):
                getattr(sketch, operation[0])(operation[1])
        self.assertIs(sketch.redo(), True)
        self.assertEqual(told(sketch), told(angle()))

    def test_redo_some_of_several(self):
        sketch = angle()
        sketch.undo()
        sketch.undo()
        sketch.redo()
        self.assertEqual(sketch.history, [("put", (0, 0, 12, 0))])
        sketch.undo()
        sketch.redo()
        sketch.redo()
        self.assertEqual(told(sketch), told(angle()))

    def test_undo_after_a_fetch(self):
        sketch = Sketch(2)
        sketch.keep_as("a")
        sketch.put((0, 0, 9, 9))
        sketch.fetch("a")
        sketch.undo()
        self.assertEqual(sketch.drawing_now, Drawing(((0, 0, 9, 9),)))


class ApplyAllTest(unittest.TestCase):
    def test_results(self):
        operations = [("put", (0, 0, 12, 0)), ("put", (4, 0, 4, 8)), ("turn", 0), ("regrid", 30), ("take", 1),
                      ("undo",), ("redo",), ("redo",), ("keep_as", "a"), ("keep_as", "a"), ("fetch", "a"), ("undo",)]
        sketch = Sketch(2)
        expected = [2, 2, ((3, 0), (1, 0), (0, 0)), 1, 0, True, True, False, False, True, 1, True]
        self.assertEqual(sketch.apply_all(operations=operations), expected)
        self.assertEqual(sketch.history, operations[:5] + [("keep_as", "a")] * 2)

    def test_names_of_ways_back_as_arguments(self):
        sketch = Sketch(2)
        operations = [("keep_as", "undo"), ("keep_as", "redo"), ("fetch", "undo"), ("fetch", "redo")]
        self.assertEqual(sketch.apply_all(operations), [False, False, 0, 0])
        self.assertEqual((sketch.history, sketch.kept_under), (operations, ["redo", "undo"]))

    def test_no_operation(self):
        sketch = angle()
        sketch.undo()
        before = told(sketch)
        self.assertEqual(sketch.apply_all([]), [])
        self.assertEqual(told(sketch), before)
        self.assertIs(sketch.redo(), True)

    def test_only_ways_back(self):
        sketch = Sketch(2)
        self.assertEqual(sketch.apply_all([("undo",), ("redo",)]), [False, False])
        sketch = angle()
        self.assertEqual(sketch.apply_all([("undo",)] * 3 + [("redo",)]), [True, True, False, True])
        self.assertEqual(sketch.history, [("put", (0, 0, 12, 0))])

    def test_the_list_stays_as_it_was(self):
        operations = [("put", (0, 0, 12, 0)), ("undo",)]
        sketch = Sketch(2)
        sketch.apply_all(operations)
        self.assertEqual(operations, [("put", (0, 0, 12, 0)), ("undo",)])
        operations.clear()
        sketch.redo()
        self.assertEqual(sketch.history, [("put", (0, 0, 12, 0))])

    def test_an_operation_fails(self):
        failing = ((InvalidPiece, ("put", (0, 0, 0, 0))), (UnknownPiece, ("take", 9)), (UnknownPiece, ("turn", -1)),
                   (InvalidHalf, ("regrid", 31)), (InvalidName, ("keep_as", "A")), (UnknownKept, ("fetch", "none")))
        for error, operation in failing:
            for before in ([], [("take", 1)], [("undo",)], [("redo",)], [("undo",), ("undo",), ("redo",)],
                           [("keep_as", "none"), ("undo",)], [("keep_as", "more"), ("regrid", 9), ("turn", 0)]):
                sketch, other = angle(), angle()
                for one in (sketch, other):
                    one.put((9, 9, 1, 1))
                    one.undo()
                with self.assertRaises(error):
                    sketch.apply_all(before + [operation, ("undo",)])
                self.assertEqual(to_the_end(sketch), to_the_end(other))

    def test_the_first_failure_counts(self):
        with self.assertRaises(UnknownPiece):
            angle().apply_all([("take", 5), ("regrid", 0)])
        with self.assertRaises(InvalidHalf):
            angle().apply_all([("regrid", 0), ("take", 5)])

    def test_wrong_operations(self):
        for operation in WRONG_OPERATIONS:
            for at in (0, 1, 2):
                sketch = angle()
                operations = [("regrid", 5), ("undo",), ("undo",)][:at] + [operation, ("take", 0), ()]
                with self.assertRaises(InvalidOperation) as caught:
                    sketch.apply_all(operations)
                self.assertEqual(caught.exception.index, at, operation)
                self.assertEqual(to_the_end(sketch), to_the_end(angle()))

    def test_wrong_operations_come_first(self):
        sketch = angle()
        for before in (("take", 9), ("put", ()), ("regrid", 0), ("keep_as", ""), ("fetch", "a")):
            with self.assertRaises(InvalidOperation) as caught:
                sketch.apply_all([before, ("undo",), ("undo", 1)])
            self.assertEqual(caught.exception.index, 2)


class ReplayTest(unittest.TestCase):
    def test_replay(self):
        sketch = Sketch.replay(half=2, operations=[("put", (0, 0, 12, 0)), ("regrid", 5), ("undo",)])
        self.assertIsInstance(sketch, Sketch)
        self.assertEqual(told(sketch), [((0, 0, 12, 0),), 2, ((0, 0), (3, 0)), [], [("put", (0, 0, 12, 0))]])
        self.assertIs(sketch.redo(), True)
        self.assertEqual(sketch.half_now, 5)

    def test_a_history(self):
        sketch = angle()
        sketch.apply_all([("keep_as", "a"), ("take", 0), ("fetch", "a"), ("undo",), ("turn", 0), ("regrid", 30)])
        self.assertEqual(told(Sketch.replay(2, sketch.history)), told(sketch))

    def test_no_operation(self):
        self.assertEqual(told(Sketch.replay(30, [])), [(), 30, (), [], []])

    def test_errors(self):
        for half in WRONG_HALVES:
            for operations in ([], [()], [("take", 0)]):
                with self.assertRaises(InvalidHalf):
                    Sketch.replay(half, operations)
        with self.assertRaises(InvalidOperation) as caught:
            Sketch.replay(2, [("take", 0), ("undo",), ("take",)])
        self.assertEqual(caught.exception.index, 2)
        with self.assertRaises(UnknownPiece):
            Sketch.replay(2, [("undo",), ("take", 0)])


class TrialTest(unittest.TestCase):
    def test_nothing_is_kept(self):
        sketch, other = angle(), angle()
        for one in (sketch, other):
            one.keep_as("a")
            one.regrid(9)
            one.undo()
        with Trial(sketch) as trial:
            self.assertIsInstance(trial, Trial)
            self.assertIs(sketch.redo(), True)
            sketch.take(0)
            sketch.keep_as("b")
            sketch.keep_as("a")
            self.assertEqual(sketch.kept_under, ["a", "b"])
        self.assertEqual(to_the_end(sketch), to_the_end(other))

    def test_undone_in_the_block(self):
        for ways in ("u", "uu", "uuu", "ur", "r", "urr", "uur"):
            sketch = angle()
            sketch.regrid(9)
            sketch.undo()
            before = told(sketch)
            with Trial(sketch):
                for way in ways:
                    sketch.undo() if way == "u" else sketch.redo()
            self.assertEqual(told(sketch), before)
            self.assertIs(sketch.redo(), True)
            self.assertEqual((sketch.half_now, len(sketch.history)), (9, 3))

    def test_hold(self):
        sketch = angle()
        with Trial(sketch=sketch) as trial:
            sketch.take(0)
            self.assertIsNone(trial.hold())
            sketch.regrid(9)
            sketch.undo()
        self.assertEqual(sketch.history, [("put", (0, 0, 12, 0)), ("put", (4, 0, 4, 8)), ("take", 0)])
        self.assertIs(sketch.redo(), True)
        self.assertEqual(sketch.half_now, 9)

    def test_an_error_leaves_the_block(self):
        sketch = angle()
        for error in (UnknownPiece, KeyError):
            with self.assertRaises(error):
                with Trial(sketch):
                    sketch.take(0)
                    if error is KeyError:
                        raise KeyError("a")
                    sketch.take(5)
            self.assertEqual(to_the_end(sketch)[0], told(angle()))
            sketch = angle()

    def test_an_error_behind_hold(self):
        sketch = angle()
        with self.assertRaises(UnknownPiece):
            with Trial(sketch) as trial:
                sketch.take(0)
                trial.hold()
                sketch.take(5)
        self.assertEqual(sketch.drawing_now, Drawing(((4, 0, 4, 8),)))

    def test_blocks_in_blocks(self):
        for outer_holds in (False, True):
            for inner_holds in (False, True):
                sketch = Sketch(2)
                with Trial(sketch) as outer:
                    sketch.put((0, 0, 12, 0))
                    if outer_holds:
                        outer.hold()
                    with Trial(sketch) as inner:
                        sketch.put((4, 0, 4, 8))
                        if inner_holds:
                            inner.hold()
                    self.assertEqual(len(sketch.drawing_now), 1 + inner_holds)
                self.assertEqual(len(sketch.drawing_now), (1 + inner_holds) * outer_holds)

    def test_held_in_the_first_block_alone(self):
        sketch = Sketch(2)
        trial = Trial(sketch)
        sketch.put((0, 0, 12, 0))
        with trial:
            sketch.put((4, 0, 4, 8))
            sketch.regrid(9)
            sketch.undo()
            trial.hold()
        before = told(sketch)
        with trial:
            sketch.put((9, 9, 1, 1))
            sketch.keep_as("a")
        self.assertEqual(told(sketch), before)
        self.assertEqual(sketch.drawing_now, angle().drawing_now)
        self.assertIs(sketch.redo(), True)
        self.assertEqual((sketch.half_now, len(sketch.history)), (9, 3))

    def test_one_trial_for_several_blocks(self):
        operations = [("undo",), ("regrid", 5), ("turn", 0), ("undo",)]
        for holds in product(("inside", "behind", "never"), repeat=3):
            for fails in (False, True):
                sketch, other = angle(), angle()
                trial = Trial(sketch)
                for held in holds:
                    # What happens between the blocks stays, and a hold there counts in none of them.
                    sketch.regrid(9)
                    other.regrid(9)
                    with suppress(KeyError), trial:
                        sketch.apply_all(operations[:2])
                        if held == "inside":
                            trial.hold()
                        sketch.apply_all(operations[2:])
                        if fails:
                            raise KeyError("a")
                    if held == "behind":
                        trial.hold()
                    if held == "inside":
                        other.apply_all(operations)
                    self.assertEqual(told(sketch), told(other))
                self.assertEqual(to_the_end(sketch), to_the_end(other))

    def test_hold_before_the_block(self):
        sketch = angle()
        trial = Trial(sketch)
        self.assertIsNone(trial.hold())
        with trial as held:
            self.assertIs(held, trial)
            sketch.take(0)
        self.assertEqual(to_the_end(sketch), to_the_end(angle()))

    def test_two_sketches(self):
        one, other = angle(), angle()
        with Trial(one) as trial, Trial(other):
            one.take(0)
            other.take(0)
            trial.hold()
        self.assertEqual([len(one.drawing_now), len(other.drawing_now)], [1, 2])


class TriedOutTest(unittest.TestCase):
    def test_without_keeping(self):
        sketch, other = angle(), angle()
        for one in (sketch, other):
            one.undo()
        found = sketch.tried_out([("redo",), ("turn", 0), ("keep_as", "a"), ("take", 1)], False)
        self.assertEqual(found, [True, ((3, 0), (1, 0), (0, 0)), False, 2])
        self.assertEqual(to_the_end(sketch), to_the_end(other))

    def test_with_keeping(self):
        sketch = angle()
        operations = [("turn", 0), ("take", 1), ("undo",)]
        self.assertEqual(sketch.tried_out(operations=operations, keep=True), [((3, 0), (1, 0), (0, 0)), 2, True])
        self.assertEqual(sketch.history[2:], [("turn", 0)])
        self.assertIs(sketch.redo(), True)
        self.assertEqual(sketch.history[2:], [("turn", 0), ("take", 1)])

    def test_no_operation(self):
        for keep in (False, True):
            sketch = angle()
            sketch.undo()
            self.assertEqual(sketch.tried_out([], keep), [])
            self.assertIs(sketch.redo(), True)

    def test_errors(self):
        for keep in (False, True):
            sketch = angle()
            with self.assertRaises(InvalidOperation) as caught:
                sketch.tried_out([("take", 9), ("undo",), ("redo", 1)], keep)
            self.assertEqual(caught.exception.index, 2)
            for error, operation in ((UnknownPiece, ("take", 9)), (UnknownKept, ("fetch", "a"))):
                with self.assertRaises(error):
                    sketch.tried_out([("take", 1), ("undo",), ("undo",), operation], keep)
            self.assertEqual(to_the_end(sketch), to_the_end(angle()))


class ModelTest(unittest.TestCase):
    def same_outcome(self, one, other):
        """Check that both fail alike, or return the same."""
        try:
            expected = other()
        except Refused as refused:
            with self.assertRaises(getattr(errors, str(refused))):
                one()
            return
        self.assertEqual(one(), expected)

    def test_operations(self):
        numbers = Random(22)
        for _ in range(60):
            half = numbers.choice((1, 3, 8, 30))
            sketch, model = Sketch(half), Model(half)
            for _ in range(25):
                operation = random_operation(numbers)
                action = getattr(sketch, operation[0])
                self.same_outcome(lambda: action(*operation[1:]), lambda: model.execute(operation))
                self.assertEqual(told(sketch), model.told())

    def test_lists_of_operations(self):
        numbers = Random(23)
        for _ in range(60):
            half = numbers.choice((1, 3, 8, 30))
            sketch, model = Sketch(half), Model(half)
            for _ in range(8):
                operations = [random_operation(numbers) for _ in range(numbers.randint(0, 5))]
                if numbers.random() < 0.3:
                    other = Model(half)
                    other.done, other.undone = model.done[:], model.undone[:]
                    self.same_outcome(lambda: sketch.tried_out(operations, False), lambda: other.apply_all(operations))
                else:
                    self.same_outcome(lambda: sketch.apply_all(operations), lambda: model.apply_all(operations))
                self.assertEqual(told(sketch), model.told())
            self.assertEqual(told(Sketch.replay(half, sketch.history)), told(sketch))


class InterfaceTest(unittest.TestCase):
    def test_methods_stand_in_the_class_itself(self):
        names = ("drawing_now", "half_now", "hot_now", "kept_under", "history", "put", "take", "regrid", "fetch",
                 "turn", "keep_as", "undo", "redo", "apply_all", "tried_out", "replay", "__init__")
        self.assertLessEqual(set(names), set(vars(Sketch)))
        self.assertLessEqual({"__init__", "__enter__", "__exit__", "hold"}, set(vars(Trial)))
        self.assertEqual([Sketch.__module__, Trial.__module__], ["ledlines.sketches"] * 2)

    def test_properties_are_not_assigned(self):
        for name in ("drawing_now", "half_now", "hot_now", "kept_under", "history"):
            with self.assertRaises(AttributeError):
                setattr(Sketch(2), name, 1)


if __name__ == "__main__":
    unittest.main()
