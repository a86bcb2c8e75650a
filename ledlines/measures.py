"""Measures: how far chains are from their pieces, how many moves they take, and how many pieces are led alike."""

from ledlines.boards import check_cell
from ledlines.cells import chain, chains, check_half, ends_in
from ledlines.drawings import cross, lowest_terms, way_between, way_of
from ledlines.errors import InvalidCell
from ledlines.falling import edges


def dot(one, other):
    """Return the scalar product of two vectors."""
    return one[0] * other[0] + one[1] * other[1]


def square_offset(point, piece):
    """Return the square of the distance of a point, a tuple of two integers, from a piece, in lowest terms."""
    way = way_of(piece)
    from_first, from_second = way_between(piece[:2], point), way_between(piece[2:], point)
    along, whole = dot(way, from_first), dot(way, way)
    # Only beside the piece the nearest of its points is the foot of the perpendicular, else it is an end.
    if along <= 0:
        return (dot(from_first, from_first), 1)
    if along >= whole:
        return (dot(from_second, from_second), 1)
    return lowest_terms(cross(way, from_first) ** 2, whole)


def centre_offsets(row, half, piece):
    """Return the list of the squares of the distances of the centres of cells from a piece."""
    return [square_offset((2 * i * half, 2 * j * half), piece) for i, j in row]


def offsets(drawing, half, piece):
    """Return the list of the squares of the distances of the centres of a piece's chain from the piece."""
    row = chain(drawing, half, piece)
    return centre_offsets(row, half, drawing.pieces[piece])


def is_less(one, other):
    """Tell whether a fraction is less than another one."""
    return one[0] * other[1] < other[0] * one[1]


def worst_offset(drawing, half):
    """Return (offset, piece, cell) with the greatest offset of all pieces, None if there is no piece."""
    worst = None
    for index, row in enumerate(chains(drawing, half)):
        for cell, offset in zip(row, centre_offsets(row, half, drawing.pieces[index])):
            # Later ones that are equal do not replace the first one.
            if worst is None or is_less(worst[0], offset):
                worst = (offset, index, cell)
    return worst


def moves_between(one, other):
    """Return how many moves there are from one cell to another one."""
    return max(abs(other[0] - one[0]), abs(other[1] - one[1]))


def moves_of(drawing, half, piece):
    """Return how many moves there are along a piece's chain."""
    row = chain(drawing, half, piece)
    return sum([moves_between(cell, after) for cell, after in zip(row, row[1:])])


def shared_moves(drawing, half):
    """Return how many moves there are between all pairs of cells that are neighbours in chains."""
    return sum([moves_between(one, other) for one, other in edges(drawing, half)])


def end_count(cell, half):
    """Return how many points of a cell of the board can be ends."""
    (x, y), (x2, y2) = ends_in(cell, half)
    return (x2 - x + 1) * (y2 - y + 1)


def piece_count(half, one, other):
    """Return how many pieces there are whose first end lies in one cell and whose second one in another one."""
    check_half(half)
    check_cell(one, half)
    check_cell(other, half)
    if one == other:
        return end_count(one, half) * (end_count(one, half) - 1)
    return end_count(one, half) * end_count(other, half)


def first_piece(half, one, other):
    """Return the first piece in tuple order with its ends in two cells, None if there is none."""
    if piece_count(half, one, other) == 0:
        return None
    first, _ = ends_in(one, half)
    (x, y), (_, y2) = ends_in(other, half)
    if one != other:
        return first + (x, y)
    # The ends are different: the second one is that which follows the first one in the cell.
    return first + ((x, y + 1) if y < y2 else (x + 1, y))


def whole_count(half, cells):
    """Return how many drawings of one piece have just these hot cells."""
    check_half(half)
    if len(cells) not in (1, 2) or (len(cells) == 2 and cells[0] >= cells[1]):
        raise InvalidCell("one cell or two different ones that ascend are needed")
    # Of two cells, either can have the first end.
    return len(cells) * piece_count(half, cells[0], cells[-1])
