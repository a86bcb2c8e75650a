"""The board of a grid: the cells that pieces touch, regions of all others, and ends that have cells of their own."""

from ledlines.cells import all_halves, cell_number, cells_on, check_half, end_cell, hot_cells
from ledlines.drawings import GREATEST_COORDINATE, is_number
from ledlines.errors import InvalidCell, InvalidHalf


def last_number(half):
    """Return the greatest first or second number that a cell of the board has."""
    return cell_number((GREATEST_COORDINATE, 1), half)


def is_on_board(cell, half):
    """Tell whether a tuple is a cell of the board."""
    return len(cell) == 2 and all([is_number(number, 0, last_number(half)) for number in cell])


def check_cell(cell, half):
    """Raise InvalidCell for what is no cell of the board."""
    if not is_on_board(cell, half):
        raise InvalidCell("the board has no such cell")


def touched(drawing, half):
    """Return the ascending tuple of all cells in which a point of a piece lies."""
    check_half(half)
    return tuple(sorted({cell for piece in drawing.pieces for cell in cells_on(piece, half)}))


def free_cells(drawing, half):
    """Return a dict whose keys are all cells of the board that are not touched, ascending."""
    taken = {cell: True for cell in touched(drawing, half)}
    numbers = list(range(last_number(half) + 1))
    return {(i, j): True for i in numbers for j in numbers if (i, j) not in taken}


def steps_from(start, free):
    """Return a dict from each cell to which free cells lead from one of them to the least number of steps."""
    steps = {start: 0}
    reached = [start]
    while reached:
        after = []
        for i, j in reached:
            for beside in ((i - 1, j), (i + 1, j), (i, j - 1), (i, j + 1)):
                if beside in free and beside not in steps:
                    steps[beside] = steps[i, j] + 1
                    after.append(beside)
        reached = after
    return steps


def regions(drawing, half):
    """Return the list of the ascending tuples of all cells that are not touched and hang together by sides."""
    free = free_cells(drawing, half)
    found = []
    placed = {}
    for cell in free:
        if cell not in placed:
            region = tuple(sorted(steps_from(cell, free)))
            placed.update({member: True for member in region})
            found.append(region)
    return found


def steps_between(drawing, half, one, other):
    """Return the least number of steps between two cells that are not touched, None if there is no way."""
    free = free_cells(drawing, half)
    for cell in (one, other):
        if not is_on_board(cell, half) or cell not in free:
            raise InvalidCell("a way goes from and to cells of the board that are not touched")
    return steps_from(one, free).get(other)


def hot_counts(drawing):
    """Return the list of the numbers of hot cells at all halves."""
    return [len(hot_cells(drawing, half)) for half in all_halves()]


def fewest_hot(drawing):
    """Return (half, count): the least number of hot cells, and the least half at which there are so many."""
    count, half = min(zip(hot_counts(drawing), all_halves()))
    return (half, count)


def lone_points(points, half):
    """Return the list of those points that are in another cell than each other one."""
    cells = [end_cell(point, half) for point in points]
    return [point for point, cell in zip(points, cells) if cells.count(cell) == 1]


def hot_between(drawing, low, high):
    """Return the ascending tuple of all ends that are in another cell than each other end at halves in a range."""
    check_half(low)
    check_half(high)
    if high < low:
        raise InvalidHalf("the second half is not less than the first one")
    # An end that several pieces have is one point, which stands in no other end's way.
    points = sorted({point for piece in drawing.pieces for point in (piece[:2], piece[2:])})
    found = points
    for half in range(low, high + 1):
        alone = lone_points(points, half)
        found = [point for point in found if point in alone]
    return tuple(found)
