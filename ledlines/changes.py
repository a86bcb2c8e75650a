"""What a piece changes that is put in or taken out, and which drawings and ends are led alike."""

from ledlines.cells import all_halves, chains, check_half, end_cell, ends_in, hot_cells
from ledlines.drawings import GREATEST_COORDINATE, Drawing, check_index, is_number
from ledlines.errors import InvalidDrawing, InvalidPiece, InvalidPoint, UnlikeCounts


def with_piece(drawing, piece):
    """Return the drawing with a piece behind all others; raise InvalidPiece if there is none."""
    try:
        return Drawing(drawing.pieces + (piece,))
    except InvalidDrawing:
        raise InvalidPiece("there is no drawing with this piece behind all others") from None


def without_piece(drawing, piece):
    """Return the drawing without one of its pieces; raise UnknownPiece if there is no such piece."""
    check_index(drawing, piece)
    return Drawing(drawing.pieces[:piece] + drawing.pieces[piece + 1:])


def put_in(drawing, piece, half):
    """Return (cells, pieces): the cells that become hot by a piece, and the other pieces whose chains change."""
    more = with_piece(drawing, piece)
    # What a piece changes changes back when it is taken out; behind all others it leaves their indexes as they are.
    return taken_out(more, len(drawing), half)


def taken_out(drawing, piece, half):
    """Return (cells, pieces): the cells not hot without a piece, and the other pieces whose chains change."""
    rest = without_piece(drawing, piece)
    still_hot = hot_cells(rest, half)
    cells = [cell for cell in hot_cells(drawing, half) if cell not in still_hot]
    rows = chains(drawing, half)
    others = [index for index in range(len(drawing)) if index != piece]
    changed = [index for index, row in zip(others, chains(rest, half)) if row != rows[index]]
    return (tuple(cells), tuple(changed))


def led_alike(one, other, half):
    """Tell whether the chains of two drawings are the same, piece by piece."""
    if len(one) != len(other):
        raise UnlikeCounts("both drawings need as many pieces")
    return chains(one, half) == chains(other, half)


def parting_halves(one, other):
    """Return the ascending list of all halves at which the chains of two drawings are not the same."""
    return [half for half in all_halves() if not led_alike(one, other, half)]


def check_point(point):
    """Raise InvalidPoint for what is no point in which an end can lie."""
    if len(point) != 2 or not all([is_number(value, 0, GREATEST_COORDINATE) for value in point]):
        raise InvalidPoint("a point has two numbers from 0 to 60")


def ends_alike(half, point):
    """Return (lowest, highest): the least and the greatest coordinates of ends in the cell of a point."""
    check_half(half)
    check_point(point)
    return ends_in(end_cell(point, half), half)


def same_end_halves(one, other):
    """Return the ascending list of all halves at which two points lie in the same cell."""
    check_point(one)
    check_point(other)
    return [half for half in all_halves() if end_cell(one, half) == end_cell(other, half)]
