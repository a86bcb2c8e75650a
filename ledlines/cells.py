"""Hot cells of a drawing on a grid, and the rows of cells through which its pieces come."""

from ledlines.drawings import GREATEST_COORDINATE, check_index, index_pairs, is_number, meeting, whole_point
from ledlines.errors import InvalidHalf

GREATEST_HALF = 30


def check_half(half):
    """Raise InvalidHalf for what is no half of a grid."""
    if not is_number(half, 1, GREATEST_HALF):
        raise InvalidHalf("a half is a number from 1 to 30")


def all_halves():
    """Return the ascending list of the halves of all grids."""
    return list(range(1, GREATEST_HALF + 1))


def cell_number(coordinate, half):
    """Return the first or second number of the cells in which a coordinate, a fraction, lies."""
    numerator, denominator = coordinate
    # Rounding down puts a coordinate just a half below a centre into that cell, one just a half above into the next.
    return (numerator + half * denominator) // (2 * half * denominator)


def cell_of(point, half):
    """Return the cell in which a point lies, a tuple of two fractions."""
    x, y = point
    return (cell_number(x, half), cell_number(y, half))


def end_cell(point, half):
    """Return the cell in which an end, a tuple of two integers, lies."""
    return cell_of(whole_point(point[0], point[1]), half)


def ends_in(cell, half):
    """Return (lowest, highest): the least and the greatest coordinates of ends in a cell of the board."""
    i, j = cell
    lowest = (max(0, (2 * i - 1) * half), max(0, (2 * j - 1) * half))
    # The right and upper borders of a cell belong to the next ones.
    highest_x = min(GREATEST_COORDINATE, (2 * i + 1) * half - 1)
    highest_y = min(GREATEST_COORDINATE, (2 * j + 1) * half - 1)
    return (lowest, (highest_x, highest_y))


def marks(drawing, half):
    """Return the list of (cell, reason) for all that makes cells hot."""
    found = []
    for index, piece in enumerate(drawing.pieces):
        found.append((end_cell(piece[:2], half), (index, 0)))
        found.append((end_cell(piece[2:], half), (index, 1)))
    for one, other in index_pairs(len(drawing)):
        point = meeting(drawing, one, other)
        if point is not None:
            found.append((cell_of(point, half), (one, other, 2)))
    return found


def reasons(drawing, half):
    """Return a dict from all hot cells, ascending, to the ascending tuples of their reasons."""
    check_half(half)
    found = {}
    for cell, reason in marks(drawing, half):
        found.setdefault(cell, []).append(reason)
    return {cell: tuple(sorted(found[cell])) for cell in sorted(found)}


def hot_cells(drawing, half):
    """Return the ascending tuple of all hot cells."""
    return tuple(reasons(drawing, half))


def border_moments(start, stop, half, parts):
    """Return the moments, in parts of the whole way, at which a coordinate is on a border of cells."""
    if start == stop:
        return []
    pace = parts // abs(stop - start)
    low, high = min(start, stop), max(start, stop)
    return [abs(at - start) * pace for at in range(low, high + 1) if (at + half) % (2 * half) == 0]


def cells_on(line, half):
    """Return the list of all cells in which a point of a line lies, in the order in which it comes through them."""
    x, y, x2, y2 = line
    # With so many parts each border is reached after an even number of them, so that halfway between two is one, too.
    parts = 2 * max(1, abs(x2 - x)) * max(1, abs(y2 - y))
    stops = [0, parts] + border_moments(x, x2, half, parts) + border_moments(y, y2, half, parts)
    stops = sorted(set(stops))
    moments = [0]
    for early, late in zip(stops, stops[1:]):
        moments.extend([(early + late) // 2, late])
    found = []
    for now in moments:
        cell = cell_of(((x * parts + (x2 - x) * now, parts), (y * parts + (y2 - y) * now, parts)), half)
        if found[-1:] != [cell]:
            found.append(cell)
    return found


def hot_on(line, half, hot):
    """Return the tuple of those cells in which a point of a line lies that are hot, in its order."""
    return tuple([cell for cell in cells_on(line, half) if cell in hot])


def chain(drawing, half, piece):
    """Return the tuple of all hot cells through which a piece comes, from its first end on."""
    hot = reasons(drawing, half)
    check_index(drawing, piece)
    return hot_on(drawing.pieces[piece], half, hot)


def chains(drawing, half):
    """Return the list of the chains of all pieces."""
    hot = reasons(drawing, half)
    return [hot_on(piece, half, hot) for piece in drawing.pieces]


def row_of(drawing, half, piece):
    """Return the tuple of all cells, hot or not, through which a piece comes, from its first end on."""
    check_half(half)
    check_index(drawing, piece)
    return tuple(cells_on(drawing.pieces[piece], half))
