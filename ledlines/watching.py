"""Somebody who sees which cells are hot, and finds out by it which of several drawings lies on the grid."""

from ledlines.boards import check_cell
from ledlines.cells import hot_cells
from ledlines.errors import InvalidCount, NoDrawing

MOST_DRAWINGS = 8


class Watcher:
    """Somebody who knows that one of several drawings lies on a grid, but not which."""

    def __init__(self, drawings, half):
        if not 1 <= len(drawings) <= MOST_DRAWINGS:
            raise InvalidCount("there are 1 to 8 drawings")
        self.hot_in = [hot_cells(drawing, half) for drawing in drawings]
        self.half = half
        self.left = list(range(len(drawings)))
        self.told = []

    @property
    def possible(self):
        """The ascending tuple of the indexes of all drawings that are possible."""
        return tuple(self.left)

    @property
    def told_so_far(self):
        """The list of all accepted calls, tuples (cell, is_hot)."""
        return list(self.told)

    def left_by(self, cell, is_hot):
        """Return the list of those possible drawings in which a cell is hot, or those in which it is not."""
        return [index for index in self.left if (cell in self.hot_in[index]) == is_hot]

    def seen(self, cell, is_hot):
        """Tell whether a cell is hot; return how many drawings are possible then."""
        check_cell(cell, self.half)
        left = self.left_by(cell, is_hot)
        if left == []:
            raise NoDrawing("no drawing would be possible then")
        self.left = left
        self.told.append((cell, is_hot))
        return len(left)

    def cells_in_some(self):
        """Return the ascending list of all cells that are hot in some possible drawings."""
        return sorted({cell for index in self.left for cell in self.hot_in[index]})

    def is_sure(self, cell):
        """Tell whether a cell is hot in all possible drawings."""
        return self.left_by(cell, True) == self.left

    def sure_cells(self):
        """Return the ascending tuple of all cells that are hot in all possible drawings."""
        return tuple([cell for cell in self.cells_in_some() if self.is_sure(cell)])

    def open_cells(self):
        """Return the ascending tuple of all cells that are hot in some possible drawings, but not in all."""
        return tuple([cell for cell in self.cells_in_some() if not self.is_sure(cell)])

    def most_left(self, cell):
        """Return the greater one of the numbers of drawings that seeing a cell can leave."""
        many = len(self.left_by(cell, True))
        return max(many, len(self.left) - many)

    def best_cell(self):
        """Return the first open cell that leaves the fewest drawings at worst, None if no cell is open."""
        ranked = [(self.most_left(cell), cell) for cell in self.open_cells()]
        if ranked == []:
            return None
        _, best = min(ranked)
        return best
