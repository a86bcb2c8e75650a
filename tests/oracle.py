"""What pieces have in common, and the cells on their way, told by fractions and by stretches of a piece's way.

What follows from both is told from these, too: hot cells, chains, and what falls together. The program goes about
it otherwise: by cross products in integers, and by the borders of cells that are reached.
"""

from fractions import Fraction
from functools import cache
from itertools import groupby, pairwise


class Stretch:
    """All shares of a piece's way, from 0 to 1, between two bounds that belong to it or do not."""

    def __init__(self):
        self.low, self.has_low = Fraction(0), True
        self.high, self.has_high = Fraction(1), True

    def from_on(self, low, belongs):
        if (low, not belongs) > (self.low, not self.has_low):
            self.low, self.has_low = low, belongs

    def up_to(self, high, belongs):
        if (high, belongs) < (self.high, self.has_high):
            self.high, self.has_high = high, belongs

    def leave_nothing(self):
        self.up_to(Fraction(-1), True)

    def is_empty(self):
        return self.low > self.high or (self.low == self.high and not (self.has_low and self.has_high))

    def keep_between(self, start, way, low, high, has_high):
        """Keep what has start + share * way from low on and below high, or up to it."""
        if way == 0:
            if not (low <= start < high or (has_high and start == high)):
                self.leave_nothing()
        elif way > 0:
            self.from_on(Fraction(low - start, way), True)
            self.up_to(Fraction(high - start, way), has_high)
        else:
            self.up_to(Fraction(low - start, way), True)
            self.from_on(Fraction(high - start, way), has_high)


def shared(one, other):
    """Return what two pieces share: no points, a point as the document writes it, or "more"."""
    x, y, x2, y2 = one
    u, v, u2, v2 = other
    stretch = Stretch()
    at_start = (x - u) * (v2 - v) - (y - v) * (u2 - u)
    along = (x2 - x) * (v2 - v) - (y2 - y) * (u2 - u)
    stretch.keep_between(at_start, along, 0, 0, True)
    stretch.keep_between(x, x2 - x, min(u, u2), max(u, u2), True)
    stretch.keep_between(y, y2 - y, min(v, v2), max(v, v2), True)
    if stretch.is_empty():
        return None
    if stretch.low < stretch.high:
        return "more"
    point = (x + stretch.low * (x2 - x), y + stretch.low * (y2 - y))
    return tuple((value.numerator, value.denominator) for value in point)


@cache
def cells_on(piece, half):
    """Return the tuple of all cells in which a point of a piece lies, in the order of its way."""
    x, y, x2, y2 = piece
    found = []
    for i in range(max(x, x2) // (2 * half) + 2):
        for j in range(max(y, y2) // (2 * half) + 2):
            stretch = Stretch()
            stretch.keep_between(x, x2 - x, (2 * i - 1) * half, (2 * i + 1) * half, False)
            stretch.keep_between(y, y2 - y, (2 * j - 1) * half, (2 * j + 1) * half, False)
            if not stretch.is_empty():
                found.append((stretch.low + stretch.high, (i, j)))
    return tuple(cell for _, cell in sorted(found))


def number_in(value, half):
    """Return the first or second number of the only cells in which a coordinate lies."""
    inside = [k for k in range(32) if -half <= value - 2 * k * half < half]
    assert len(inside) == 1
    return inside[0]


def cell_of(point, half):
    """Return the cell in which a point lies, a tuple of two fractions as the document writes them."""
    return tuple(number_in(Fraction(*value), half) for value in point)


def reasons(pieces, half):
    """Return the dict of all hot cells and their reasons."""
    found = {}
    for index, (x, y, x2, y2) in enumerate(pieces):
        for end, place in enumerate(((x, y), (x2, y2))):
            cell = tuple(number_in(value, half) for value in place)
            found.setdefault(cell, []).append((index, end))
        for before in range(index):
            point = shared(pieces[before], pieces[index])
            if point is not None:
                found.setdefault(cell_of(point, half), []).append((before, index, 2))
    return {cell: tuple(sorted(found[cell])) for cell in sorted(found)}


def pieces_up_to(size):
    """Return all pieces with coordinates from 0 to a size."""
    values = range(size + 1)
    return [(x, y, x2, y2) for x in values for y in values for x2 in values for y2 in values if (x, y) != (x2, y2)]


def hot_on(line, half, hot):
    """Return the tuple of the hot cells in which a point of a line lies, in the order of its way."""
    return tuple(cell for cell in cells_on(line, half) if cell in hot)


def chains(pieces, half):
    """Return the list of the chains of all pieces."""
    hot = reasons(pieces, half)
    return [hot_on(piece, half, hot) for piece in pieces]


def led_again(pieces, half, times):
    """Return the list of all chains that have been led again so many times."""
    hot = reasons(pieces, half)
    rows = chains(pieces, half)
    for _ in range(times):
        for index, row in enumerate(rows):
            centres = [(2 * i * half, 2 * j * half) for i, j in row]
            cells = [cell for one, other in pairwise(centres) for cell in hot_on(one + other, half, hot)]
            rows[index] = tuple(cell for cell, _ in groupby(cells)) if cells else row
    return rows


def points_of(pieces, index):
    """Return the set of the ends and the points of meeting of a piece, as the document writes points."""
    x, y, x2, y2 = pieces[index]
    found = {((x, 1), (y, 1)), ((x2, 1), (y2, 1))}
    return found | {shared(pieces[index], other) for at, other in enumerate(pieces) if at != index} - {None}


def nothing_together(pieces, half):
    """Tell whether nothing falls together."""
    points = set().union(*[points_of(pieces, index) for index in range(len(pieces))])
    if len({cell_of(point, half) for point in points}) < len(points):
        return False
    for index, row in enumerate(chains(pieces, half)):
        if set(row) - {cell_of(point, half) for point in points_of(pieces, index)}:
            return False
    return True


def order_on(pieces, index):
    """Return the tuple of all pieces that meet a piece, by the squares of the distances from its first end."""
    x, y = pieces[index][:2]
    found = []
    for other, piece in enumerate(pieces):
        point = shared(pieces[index], piece) if other != index else None
        if point is not None:
            found.append(((Fraction(*point[0]) - x) ** 2 + (Fraction(*point[1]) - y) ** 2, other))
    return tuple(other for _, other in sorted(found))


def board(half):
    """Return the ascending list of all cells of the board."""
    numbers = sorted({number_in(value, half) for value in range(61)})
    return [(i, j) for i in numbers for j in numbers]


def touched(pieces, half):
    """Return the ascending tuple of all cells in which a point of a piece lies."""
    return tuple(sorted(set().union(*[cells_on(piece, half) for piece in pieces])))


def are_beside(one, other):
    """Tell whether two cells are beside each other by a side."""
    return abs(one[0] - other[0]) + abs(one[1] - other[1]) == 1


def ways(free):
    """Return a dict from pairs of cells to the least numbers of steps between them, by letting ways get shorter."""
    steps = {(one, other): 1 for one in free for other in free if are_beside(one, other)}
    steps |= {(cell, cell): 0 for cell in free}
    for middle in free:
        before = [(one, steps[one, middle]) for one in free if (one, middle) in steps]
        for one, many in before:
            for other, more in before:
                steps[one, other] = min(steps.get((one, other), many + more), many + more)
    return steps


def square_offset(point, piece):
    """Return the square of the distance of a point from a piece, by the share of its way that is nearest."""
    x, y, x2, y2 = piece
    way = (x2 - x, y2 - y)
    share = Fraction((point[0] - x) * way[0] + (point[1] - y) * way[1], way[0] ** 2 + way[1] ** 2)
    share = min(max(share, Fraction(0)), Fraction(1))
    return (x + share * way[0] - point[0]) ** 2 + (y + share * way[1] - point[1]) ** 2


@cache
def ends_in(cell, half):
    """Return the ascending list of all points of a cell that can be ends."""
    numbers = [number_in(value, half) for value in range(61)]
    return [(x, y) for x in range(61) for y in range(61) if (numbers[x], numbers[y]) == cell]
