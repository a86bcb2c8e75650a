"""Promises 1, 24 and 25: somebody who sees cells and finds out which drawing lies on the grid."""

import unittest
from random import Random

import oracle
from ledlines.drawings import Drawing
from ledlines.errors import InvalidCell, InvalidCount, InvalidHalf, NoDrawing
from ledlines.watching import Watcher
from samples import drawing_of, samples

SHORT = Drawing(((0, 0, 4, 0),))
LONG = Drawing(((0, 0, 8, 0),))
ANGLE = Drawing(((0, 0, 4, 0), (0, 0, 0, 8)))
SIX = Drawing(((0, 0, 60, 47), (60, 3, 5, 60), (33, 0, 20, 60), (0, 31, 60, 30), (60, 47, 0, 41), (7, 0, 53, 58)))
NOTHING = Drawing(())
LAST_NUMBERS = ((1, 30), (2, 15), (3, 10), (4, 8), (5, 6), (8, 4), (15, 2), (20, 2), (21, 1), (30, 1))
WRONG_HALVES = (0, 31, -1, -30, 60, True, False)
WRONG_CELLS = ((-1, 0), (0, -1), (16, 0), (0, 16), (99, 99), (True, 3), (3, True), (False, 0), (), (3,), (3, 3, 3))


def three():
    return Watcher((SHORT, LONG, ANGLE), 2)


def told(watcher):
    """Return all that a watcher tells."""
    return [watcher.possible, watcher.told_so_far, watcher.sure_cells(), watcher.open_cells(), watcher.best_cell()]


def expected(hot, calls):
    """Return all that a watcher should tell who knows these sets of hot cells, after these calls."""
    possible = tuple(index for index, cells in enumerate(hot)
                     if all((cell in cells) is is_hot for cell, is_hot in calls))
    left = [hot[index] for index in possible]
    some, all_of_them = set().union(*left), set.intersection(*left)
    best = None
    for cell in sorted(some - all_of_them):
        worst = max(sum(cell in cells for cells in left), sum(cell not in cells for cells in left))
        if best is None or worst < best[0]:
            best = (worst, cell)
    cells = [tuple(sorted(all_of_them)), tuple(sorted(some - all_of_them))]
    return [possible, calls, *cells, best and best[1]]


class WatcherTest(unittest.TestCase):
    def test_at_first(self):
        watcher = three()
        self.assertEqual((watcher.possible, watcher.told_so_far), ((0, 1, 2), []))
        self.assertEqual(Watcher(drawings=(NOTHING,), half=30).possible, (0,))

    def test_numbers_of_drawings(self):
        for many in range(1, 9):
            self.assertEqual(Watcher((SHORT,) * many, 1).possible, tuple(range(many)))
        for many in (0, 9, 10, 20):
            for half in (2,) + WRONG_HALVES:
                with self.assertRaises(InvalidCount):
                    Watcher((SHORT,) * many, half)

    def test_wrong_halves(self):
        for half in WRONG_HALVES:
            for drawings in ((SHORT,), (NOTHING,) * 8, (SHORT, LONG)):
                with self.assertRaises(InvalidHalf):
                    Watcher(drawings, half)

    def test_lists_are_new_for_each_reading(self):
        watcher = three()
        watcher.seen((1, 0), True)
        watcher.told_so_far.clear()
        self.assertEqual(watcher.told_so_far, [((1, 0), True)])
        self.assertIsNot(watcher.told_so_far, watcher.told_so_far)

    def test_a_list_stays_as_it_was_read(self):
        watcher = three()
        before = watcher.told_so_far
        watcher.seen((1, 0), True)
        self.assertEqual(before, [])

    def test_watchers_are_apart(self):
        one, other = three(), three()
        one.seen((1, 0), True)
        self.assertEqual((other.possible, other.told_so_far), ((0, 1, 2), []))


class SeenTest(unittest.TestCase):
    def test_hot_or_not(self):
        self.assertEqual(three().seen((1, 0), True), 2)
        self.assertEqual(three().seen(cell=(1, 0), is_hot=False), 1)
        self.assertEqual(three().seen((0, 0), True), 3)
        self.assertEqual(three().seen((15, 15), False), 3)

    def test_one_after_the_other(self):
        watcher = three()
        self.assertEqual([watcher.seen((2, 0), False), watcher.possible], [2, (0, 2)])
        self.assertEqual([watcher.seen((9, 9), False), watcher.possible], [2, (0, 2)])
        self.assertEqual([watcher.seen((0, 2), True), watcher.possible], [1, (2,)])
        self.assertEqual(watcher.told_so_far, [((2, 0), False), ((9, 9), False), ((0, 2), True)])

    def test_the_same_cell_again(self):
        watcher = three()
        self.assertEqual([watcher.seen((2, 0), True) for _ in range(3)], [1, 1, 1])
        self.assertEqual(watcher.told_so_far, [((2, 0), True)] * 3)

    def test_corners_of_the_board(self):
        for half, last in LAST_NUMBERS:
            watcher = Watcher((Drawing(((60, 60, 0, 60), (0, 0, 60, 0))), NOTHING), half)
            for cell in ((0, 0), (0, last), (last, 0), (last, last)):
                self.assertEqual(watcher.seen(cell, True), 1)

    def test_no_drawing(self):
        watcher = three()
        watcher.seen((1, 0), True)
        before = told(watcher)
        for cell, is_hot in (((0, 0), False), ((1, 0), False), ((2, 0), True), ((15, 15), True)):
            with self.assertRaises(NoDrawing):
                watcher.seen(cell, is_hot)
            self.assertEqual(told(watcher), before)
        self.assertEqual(watcher.seen((0, 2), False), 1)

    def test_wrong_cells(self):
        for watcher in (three(), Watcher((NOTHING,), 2)):
            before = told(watcher)
            for cell in WRONG_CELLS:
                for is_hot in (True, False):
                    with self.assertRaises(InvalidCell):
                        watcher.seen(cell, is_hot)
                    self.assertEqual(told(watcher), before)

    def test_the_end_of_the_board(self):
        for half, last in LAST_NUMBERS:
            watcher = Watcher((NOTHING,), half)
            for cell in ((last + 1, 0), (0, last + 1)):
                with self.assertRaises(InvalidCell):
                    watcher.seen(cell, False)
            self.assertEqual(watcher.seen((last, last), False), 1)


class CellsTest(unittest.TestCase):
    def test_sure_and_open_cells(self):
        watcher = three()
        self.assertEqual((watcher.sure_cells(), watcher.open_cells()), (((0, 0),), ((0, 2), (1, 0), (2, 0))))
        watcher.seen((1, 0), True)
        self.assertEqual((watcher.sure_cells(), watcher.open_cells()), (((0, 0), (1, 0)), ((0, 2),)))
        watcher.seen((0, 2), False)
        self.assertEqual((watcher.sure_cells(), watcher.open_cells()), (((0, 0), (1, 0)), ()))

    def test_cells_that_were_seen_before(self):
        # Nobody told of (0, 0), but it is sure as well as (1, 0).
        watcher = Watcher((SHORT, ANGLE), 2)
        self.assertEqual(watcher.sure_cells(), ((0, 0), (1, 0)))
        watcher.seen((1, 0), True)
        self.assertEqual(watcher.sure_cells(), ((0, 0), (1, 0)))

    def test_one_drawing(self):
        watcher = Watcher((ANGLE,), 2)
        self.assertEqual([watcher.sure_cells(), watcher.open_cells(), watcher.best_cell()],
                         [((0, 0), (0, 2), (1, 0)), (), None])

    def test_drawings_of_no_piece(self):
        for many in (1, 8):
            watcher = Watcher((NOTHING,) * many, 30)
            self.assertEqual([watcher.sure_cells(), watcher.open_cells(), watcher.best_cell()], [(), (), None])
        self.assertEqual(Watcher((NOTHING, SHORT), 2).open_cells(), ((0, 0), (1, 0)))

    def test_drawings_that_are_hot_alike(self):
        watcher = Watcher((SHORT, LONG, ANGLE), 30)
        self.assertEqual([watcher.sure_cells(), watcher.open_cells(), watcher.best_cell()], [((0, 0),), (), None])

    def test_the_best_cell_halves_the_drawings(self):
        # (5, 0) is hot in one of the four drawings, (6, 0) in two and (7, 0) in three of them.
        drawings = tuple(Drawing(((0, 0, x, 0), (0, 1, x2, 1))) for x, x2 in ((24, 28), (28, 20), (24, 28), (4, 4)))
        watcher = Watcher(drawings, 2)
        self.assertEqual(watcher.open_cells(), ((1, 0), (5, 0), (6, 0), (7, 0)))
        self.assertEqual(watcher.best_cell(), (6, 0))

    def test_the_first_one_of_several(self):
        self.assertEqual(three().best_cell(), (0, 2))
        self.assertEqual(Watcher((LONG, SHORT), 2).best_cell(), (1, 0))

    def test_a_cell_that_is_hot_in_most_of_them(self):
        # (1, 0) leaves 3 or 1, as (2, 0) does the other way about.
        watcher = Watcher((SHORT, SHORT, SHORT, LONG), 2)
        self.assertEqual((watcher.open_cells(), watcher.best_cell()), (((1, 0), (2, 0)), (1, 0)))
        self.assertEqual(Watcher((LONG, LONG, LONG, SHORT), 2).best_cell(), (1, 0))

    def test_samples(self):
        numbers = Random(24)
        for half in (1, 3, 8, 20, 30):
            for _ in range(12):
                many = numbers.randint(1, 8)
                pieces = [drawing_of(numbers.randint(0, 3), 12, numbers) for _ in range(many)]
                hot = [set(oracle.reasons(each, half)) for each in pieces]
                watcher, calls = Watcher(tuple(Drawing(each) for each in pieces), half), []
                self.assertEqual(told(watcher), expected(hot, calls))
                right = numbers.choice(hot)
                for _ in range(4):
                    cell = watcher.best_cell() or (0, 0)
                    calls.append((cell, cell in right))
                    left = expected(hot, calls)
                    self.assertEqual(watcher.seen(*calls[-1]), len(left[0]))
                    self.assertEqual(told(watcher), left)

    def test_drawings_of_six_pieces(self):
        drawings = [pieces for pieces in samples() if len(pieces) == 6][:7] + [SIX.pieces]
        hot = [set(oracle.reasons(pieces, 5)) for pieces in drawings]
        watcher = Watcher(tuple(Drawing(pieces) for pieces in drawings), 5)
        self.assertEqual(told(watcher), expected(hot, []))
        for _ in range(8):
            cell = watcher.best_cell()
            if cell is not None:
                watcher.seen(cell, cell in hot[7])
        self.assertEqual(watcher.possible, (7,))


class InterfaceTest(unittest.TestCase):
    def test_kinds_of_results(self):
        watcher = three()
        found = [watcher.possible, watcher.told_so_far, watcher.sure_cells(), watcher.open_cells(), watcher.best_cell()]
        self.assertEqual([type(value) for value in found], [tuple, list, tuple, tuple, tuple])
        self.assertIs(type(watcher.seen((0, 0), True)), int)

    def test_methods_stand_in_the_class_itself(self):
        names = {"possible", "told_so_far", "seen", "sure_cells", "open_cells", "best_cell", "__init__"}
        self.assertLessEqual(names, set(vars(Watcher)))
        self.assertEqual(Watcher.__module__, "ledlines.watching")

    def test_properties_are_not_assigned(self):
        for name in ("possible", "told_so_far"):
            with self.assertRaises(AttributeError):
                setattr(three(), name, ())


if __name__ == "__main__":
    unittest.main()
