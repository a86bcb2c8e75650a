"""Promises 1, 29 and 30: scripts, their rows, blocks and steps, and the rows at which they fail."""

import unittest
from random import Random

from ledlines import errors
from ledlines.drawings import Drawing
from ledlines.errors import ExecutionFailed, InvalidHalf, ScriptError, TooLong
from ledlines.scripts import run_script
from ledlines.sketches import Sketch
from model import Model
from script_model import outcome, random_script

WRONG_HALVES = (0, 31, -1, -30, 60, True, False)
WRONG_NUMBERS = ("100", "999", "-1", "-0", "+1", "00", "01", "007", "x", "1.0", "\t1", "1\r", "\u0661", "\u00b2", "1_0",
                 "9" * 5000)
ROWS = ("put 0 1 2 3", "take 0", "turn 0", "regrid 5", "show", "chain 0", "repeat 2", "when 0 0")
WRONG_ROWS = ("", " ", "undo", "redo", "keep_as a", "fetch a", "Show", "show ", " show", "show 1", "put", "put 1 2 3",
              "put 1 2 3 4 5", "put  1 2 3 4", "put 1 2 3 4 ", "take", "take 0 0", "turn", "turn 0 1", "regrid",
              "regrid 1 2", "chain", "chain 0 0", "repeat", "repeat 2 2", "when", "when 1", "when 1 2 3", "end 1",
              "ends", "end ", "\tshow", "show\r", "piece 0 0 1 1", "0", "repeat x", "when 0 -1")


def run_rows(half, *rows):
    return run_script(half, "\n".join(rows))


class ScriptTest(unittest.TestCase):
    def wrong(self, row, *rows):
        with self.assertRaises(ScriptError) as caught:
            run_rows(2, *rows)
        self.assertEqual(caught.exception.row, row, rows[:9])

    def fails(self, row, *rows, half=2):
        with self.assertRaises(ExecutionFailed) as caught:
            run_rows(half, *rows)
        self.assertEqual(caught.exception.row, row, rows[:9])

    def too_long(self, *rows):
        with self.assertRaises(TooLong):
            run_rows(2, *rows)


class RowsTest(ScriptTest):
    def test_the_empty_script(self):
        for half in (1, 2, 30):
            sketch, output = run_script(half, "")
            self.assertEqual((output, sketch.history, sketch.half_now), ([], [], half))

    def test_operations(self):
        sketch, output = run_rows(2, "put 0 0 12 0", "put 4 0 4 8", "turn 0", "regrid 30", "take 1")
        expected = [("put", (0, 0, 12, 0)), ("put", (4, 0, 4, 8)), ("turn", 0), ("regrid", 30), ("take", 1)]
        self.assertEqual((output, sketch.history), ([], expected))
        self.assertEqual((sketch.drawing_now, sketch.half_now), (Drawing(((12, 0, 0, 0),)), 30))
        self.assertEqual([sketch.undo(), sketch.undo(), sketch.half_now, sketch.redo()], [True, True, 2, True])

    def test_show(self):
        _, output = run_rows(2, "show", "put 0 0 12 0", "show", "put 4 0 4 8", "show", "regrid 30", "show")
        self.assertEqual(output, ["0", "2", "4", "1"])

    def test_chain(self):
        _, output = run_rows(2, "put 0 0 12 0", "chain 0", "put 4 8 4 0", "chain 0", "chain 1", "regrid 30", "chain 1")
        self.assertEqual(output, ["(0,0)-(3,0)", "(0,0)-(1,0)-(3,0)", "(1,2)-(1,0)", "(0,0)"])

    def test_only_operations_are_in_the_history(self):
        rows = ("put 0 0 12 0", "show", "chain 0", "repeat 3", "turn 0", "end", "when 0 0", "regrid 9", "end")
        sketch, _ = run_script(half=2, text="\n".join(rows))
        self.assertEqual([operation[0] for operation in sketch.history], ["put"] + ["turn"] * 3 + ["regrid"])
        self.assertEqual(Sketch.replay(2, sketch.history).drawing_now, sketch.drawing_now)

    def test_repeat(self):
        for many in (0, 1, 2, 10, 99):
            _, output = run_rows(2, f"repeat {many}", "show", "end", "put 0 0 9 9", "show")
            self.assertEqual(output, ["0"] * many + ["2"])

    def test_when(self):
        rows = ("put 0 0 12 0", "when 3 0", "show", "end", "when 1 0", "chain 0", "end", "when 0 0", "chain 0", "end")
        self.assertEqual(run_rows(2, *rows)[1], ["2", "(0,0)-(3,0)"])

    def test_when_on_the_grid_of_the_moment(self):
        rows = ("put 0 0 60 0", "when 15 0", "show", "regrid 30", "end", "when 1 0", "chain 0", "end")
        self.assertEqual(run_rows(2, *rows)[1], ["2", "(0,0)-(1,0)"])

    def test_touched_cells_are_not_hot(self):
        self.assertEqual(run_rows(2, "put 0 0 60 0", "when 5 0", "show", "end")[1], [])

    def test_corners_of_the_board(self):
        for half, last in ((1, 30), (2, 15), (3, 10), (20, 2), (30, 1)):
            rows = ["put 0 0 60 60", "put 0 60 60 0"]
            for i, j in ((0, 0), (0, last), (last, 0), (last, last)):
                rows += [f"when {i} {j}", "show", "end"]
            self.assertEqual(len(run_rows(half, *rows)[1]), 4)

    def test_blocks_without_rows(self):
        self.assertEqual(run_rows(2, "repeat 9", "end", "when 0 0", "end", "show")[1], ["0"])

    def test_blocks_in_blocks(self):
        rows = ("repeat 2", "show", "repeat 3", "chain 0", "end", "when 9 9", "show", "end", "end")
        _, output = run_rows(2, "put 0 0 60 0", *rows)
        self.assertEqual(output, ["2", *["(0,0)-(15,0)"] * 3] * 2)

    def test_four_deep(self):
        rows = ["put 0 0 9 0", "repeat 2", "when 0 0", "repeat 2", "repeat 2", "show", *["end"] * 4, "show"]
        self.assertEqual(run_rows(2, *rows)[1], ["2"] * 9)
        whens = ["put 0 0 9 0"] + ["when 0 0"] * 4 + ["show"] + ["end"] * 4
        self.assertEqual(run_rows(2, *whens)[1], ["2"])

    def test_four_deep_twice(self):
        block = ["repeat 1"] * 4 + ["show"] + ["end"] * 4
        self.assertEqual(run_rows(2, *block, *block)[1], ["0", "0"])


class ScriptErrorTest(ScriptTest):
    def test_wrong_rows(self):
        for row in WRONG_ROWS:
            if row != "":
                self.wrong(0, row)
            self.wrong(1, "show", row)
            self.wrong(2, "repeat 0", "show", row, "end")
            self.wrong(0, row, "show")
            self.wrong(0, row, "show", "x")

    def test_wrong_numbers(self):
        for row in ROWS:
            words = row.split(" ")
            for at in range(1, len(words)):
                for number in WRONG_NUMBERS:
                    self.wrong(1, "show", " ".join(words[:at] + [number] + words[at + 1:]))

    def test_all_numbers(self):
        for number in range(100):
            rows = [f"put {number} {number} {number} {number}", f"take {number}", f"turn {number}", f"chain {number}",
                    f"when {number} {number}", "end", f"repeat {number}", "end"]
            self.fails(2, "repeat 0", "end", *rows)

    def test_empty_rows(self):
        self.wrong(0, "", "")
        self.wrong(1, "show", "")
        self.wrong(0, "", "show")

    def test_an_end_without_a_block(self):
        self.wrong(0, "end")
        self.wrong(2, "repeat 2", "end", "end")
        self.wrong(3, "show", "when 0 0", "end", "end", "x")

    def test_a_missing_end(self):
        self.wrong(1, "repeat 2")
        self.wrong(2, "when 0 0", "show")
        self.wrong(3, "repeat 2", "repeat 2", "end")
        self.wrong(60, *["show"] * 59, "repeat 2")

    def test_a_wrong_row_in_an_open_block(self):
        self.wrong(2, "repeat 2", "show", "x")

    def test_a_fifth_block(self):
        for inner in ("repeat 0", "when 0 0"):
            self.wrong(4, *["repeat 0"] * 4, inner, *["end"] * 5)
            self.wrong(4, *["when 0 0"] * 4, inner, *["end"] * 5)
            self.wrong(5, *["repeat 0"] * 4, "show", inner, "end", *["end"] * 4)
        self.wrong(6, "repeat 1", "end", *["repeat 0"] * 4, "repeat 0", *["end"] * 5)
        self.wrong(4, *["repeat 0"] * 6)
        self.wrong(4, *["repeat 0"] * 4)

    def test_sixty_rows(self):
        self.assertEqual(run_rows(2, *["show"] * 60)[1], ["0"] * 60)
        for row in ROWS + WRONG_ROWS + ("end",):
            self.wrong(60, *["show"] * 60, row)
            self.wrong(60, *["show"] * 60, row, "x")
        self.wrong(60, "repeat 2", *["show"] * 59, "end")
        self.wrong(5, *["show"] * 5, "x", *["show"] * 60)
        self.assertEqual(run_rows(2, "repeat 0", *["show"] * 58, "end")[1], [])

    def test_nothing_is_executed_before(self):
        self.wrong(2, "take 0", "repeat 99", "x")
        self.wrong(4, "repeat 99", "repeat 99", "end", "end", "end")

    def test_what_rows_tell_may_not_be_there(self):
        for row in ("take 99", "turn 6", "regrid 0", "chain 9", "put 61 0 0 0", "put 0 0 0 0", "when 99 99"):
            rows = ("repeat 0", row, "end", "end") if row.startswith("when") else ("repeat 0", row, "end")
            self.assertEqual(run_rows(2, *rows)[1], [])


class ExecutionFailedTest(ScriptTest):
    def test_each_row(self):
        rows = ("take 0", "turn 0", "chain 0", "regrid 0", "regrid 31", "put 61 0 0 0", "put 0 0 0 99", "put 5 5 5 5")
        for row in rows:
            self.fails(0, row)
            self.fails(2, "show", "show", row, "show")

    def test_unknown_pieces(self):
        for word in ("take", "turn", "chain"):
            self.fails(1, "put 0 0 9 9", f"{word} 1")
            self.fails(2, "put 0 0 9 9", "take 0", f"{word} 0")

    def test_pieces_that_lie_along_another_one_and_a_seventh(self):
        self.fails(1, "put 0 0 9 9", "put 3 3 5 5")
        self.fails(6, *[f"put 0 {9 * y} 60 {9 * y}" for y in range(6)], "put 0 60 60 60")

    def test_no_cell_of_the_board(self):
        for half, last in ((1, 30), (2, 15), (3, 10), (20, 2), (30, 1)):
            self.assertEqual(run_rows(half, f"when {last} {last}", "end")[1], [])
            for cell in (f"{last + 1} 0", f"0 {last + 1}", "99 99"):
                self.fails(1, "show", f"when {cell}", "show", "end", half=half)

    def test_no_cell_of_the_board_of_the_moment(self):
        self.fails(3, "when 15 15", "end", "regrid 30", "when 2 0", "end")

    def test_in_blocks(self):
        self.fails(1, "repeat 2", "take 0", "end")
        self.fails(2, "put 0 0 9 9", "repeat 2", "take 0", "end")
        self.fails(4, "put 0 0 9 9", "when 0 0", "repeat 2", "show", "take 1", "end", "end")
        self.fails(3, "put 0 0 9 9", "repeat 9", "when 0 0", "when 99 0", "end", "take 0", "end", "end")

    def test_only_when_it_is_executed(self):
        self.assertEqual(run_rows(2, "repeat 0", "take 0", "end", "when 0 0", "take 0", "end", "show")[1], ["0"])


class TooLongTest(ScriptTest):
    def test_rows_are_steps(self):
        # 1 + 99 * 3 steps for the block, and 2 before it.
        block = ("repeat 99", "show", "show", "end")
        self.assertEqual(len(run_rows(2, "show", "show", *block)[1]), 200)
        self.too_long("show", "show", "show", *block)
        self.too_long("show", "show", *block, "show")

    def test_executions_of_the_rows_of_a_repeat_are_steps(self):
        # 1 + 99 + 1 + 99 + 1 + 98 steps, and one more.
        blocks = ("repeat 99", "end", "repeat 99", "end", "repeat 98", "end")
        self.assertEqual(run_rows(2, *blocks, "show")[1], ["0"])
        self.too_long(*blocks, "show", "show")
        self.too_long(*blocks[:4], "repeat 99", "end", "show")

    def test_a_when_is_one_step(self):
        # 1 + 1 + 98 * 3 steps for a cell that is hot, and 4 more; the rows of a when are no step as a whole.
        rows = ("put 0 0 9 9", "repeat 98", "when 0 0", "show", "end", "end")
        self.assertEqual(len(run_rows(2, *rows, *["show"] * 4)[1]), 102)
        self.too_long(*rows, *["show"] * 5)

    def test_a_when_without_its_rows_is_one_step(self):
        # 1 + 99 * 2 steps, and 101 more.
        rows = ("repeat 99", "when 0 0", "show", "end", "end", "repeat 50", "show", "end")
        self.assertEqual(len(run_rows(2, *rows)[1]), 50)
        self.too_long(*rows, "show")

    def test_blocks_in_blocks(self):
        # 1 + 20 * (1 + 1 + 6 * 2) steps are 281.
        rows = ("repeat 20", "repeat 6", "show", "end", "end")
        self.assertEqual(len(run_rows(2, *rows, *["show"] * 19)[1]), 139)
        self.too_long(*rows, *["show"] * 20)
        self.too_long("repeat 99", "repeat 99", "repeat 99", "repeat 99", "end", "end", "end", "end")

    def test_before_a_row_that_would_fail(self):
        rows = ("repeat 99", "show", "show", "end", "show")
        self.fails(5, *rows, "take 0")
        self.too_long(*rows, "show", "take 0")
        self.fails(5, *rows, "when 99 99", "end")
        self.too_long(*rows, "show", "when 99 99", "end")

    def test_no_steps(self):
        self.assertEqual(run_rows(2, *["repeat 0", *["show"] * 57, "end", "show"])[1], ["0"])


class OrderTest(ScriptTest):
    def test_wrong_halves_come_first(self):
        for half in WRONG_HALVES:
            for rows in ((), ("show",), ("x",), ("end",), ("take 0",), ("repeat 99", "repeat 99", "end", "end")):
                with self.assertRaises(InvalidHalf):
                    run_rows(half, *rows)

    def test_a_wrong_row_comes_before_one_that_fails(self):
        self.wrong(3, "take 0", "show", "show", "x")
        self.wrong(5, "repeat 99", "repeat 99", "show", "end", "end", "end")

    def test_random_scripts(self):
        numbers = Random(29)
        kinds = {}
        for _ in range(700):
            half, text = numbers.choice((1, 3, 8, 30)), random_script(numbers)
            kind, expected = outcome(half, text)
            if isinstance(kind, Model):
                sketch, output = run_script(half, text)
                told = [sketch.drawing_now.pieces, sketch.half_now, sketch.hot_now, sketch.kept_under, sketch.history]
                self.assertEqual((output, told), (expected, kind.told()), text)
                kind = None
            else:
                with self.assertRaises(getattr(errors, kind), msg=text) as caught:
                    run_script(half, text)
                self.assertEqual(getattr(caught.exception, "row", None), expected, text)
            kinds[kind] = kinds.get(kind, 0) + 1
        self.assertGreater(min(kinds.get(kind, 0) for kind in (None, "ScriptError", "ExecutionFailed", "TooLong")), 10)


class KindsTest(unittest.TestCase):
    def test_kinds_of_results(self):
        found = run_rows(2, "put 0 0 9 9", "show", "chain 0")
        self.assertEqual([type(found), *map(type, found), *map(type, found[1])], [tuple, Sketch, list, str, str])

    def test_calls_are_apart(self):
        for _ in range(2):
            sketch, output = run_rows(2, "put 0 0 9 9", "show")
            self.assertEqual((output, len(sketch.history)), (["2"], 1))
            output.clear()
            sketch.take(0)

    def test_the_function_is_defined_in_the_file(self):
        self.assertEqual(run_script.__module__, "ledlines.scripts")


if __name__ == "__main__":
    unittest.main()
