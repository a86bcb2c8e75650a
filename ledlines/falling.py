"""What falls together on a grid, which grids keep pieces apart, and in which order pieces and cells come."""

from ledlines.cells import all_halves, cell_of, chains
from ledlines.drawings import check_index, check_pair, index_pairs, meeting
from ledlines.drawings import common_denominator, numerator_over, way_of, whole_point


def share_cell(row, other_row):
    """Tell whether two chains have a cell in common."""
    return any([cell in other_row for cell in row])


def together(drawing, half):
    """Return the ascending list of all pairs of pieces that have no point in common, but a cell in their chains."""
    rows = chains(drawing, half)
    pairs = [(one, other) for one, other in index_pairs(len(drawing)) if meeting(drawing, one, other) is None]
    return [(one, other) for one, other in pairs if share_cell(rows[one], rows[other])]


def on_cell(drawing, half, cell):
    """Return the ascending tuple of all pieces whose chains have a cell."""
    rows = chains(drawing, half)
    # A boolean would equal the number of a cell, but is none.
    if any([isinstance(number, bool) for number in cell]):
        return ()
    return tuple([piece for piece, row in enumerate(rows) if cell in row])


def meetings_on(drawing, piece):
    """Return the ascending list of (other, point) for all pieces that have a point in common with a piece."""
    others = [other for other in range(len(drawing)) if other != piece]
    found = [(other, meeting(drawing, piece, other)) for other in others]
    return [(other, point) for other, point in found if point is not None]


def own_points(drawing, piece):
    """Return the list of the two ends of a piece and of its points of meeting."""
    x, y, x2, y2 = drawing.pieces[piece]
    return [whole_point(x, y), whole_point(x2, y2)] + [point for other, point in meetings_on(drawing, piece)]


def lie_apart(points, half):
    """Tell whether no two different points lie in the same cell."""
    point_in = {}
    for point in points:
        if point_in.setdefault(cell_of(point, half), point) != point:
            return False
    return True


def keeps_to(row, points, half):
    """Tell whether a chain has no cell but those in which the points lie."""
    cells = [cell_of(point, half) for point in points]
    return all([cell in cells for cell in row])


def nothing_together(drawing, half):
    """Tell whether nothing falls together on a grid."""
    points_on = [own_points(drawing, piece) for piece in range(len(drawing))]
    if not lie_apart([point for points in points_on for point in points], half):
        return False
    return all([keeps_to(row, points, half) for row, points in zip(chains(drawing, half), points_on)])


def greatest_half(drawing):
    """Return the greatest half at which nothing falls together, None if there is none."""
    # A finer grid can be worse than a coarser one, so that each has to be tried.
    for half in reversed(all_halves()):
        if nothing_together(drawing, half):
            return half
    return None


def apart_halves(drawing, one, other):
    """Return the ascending list of all halves at which the chains of two pieces have no cell in common."""
    check_pair(drawing, one, other)
    found = []
    for half in all_halves():
        rows = chains(drawing, half)
        if not share_cell(rows[one], rows[other]):
            found.append(half)
    return found


def order_on(drawing, piece):
    """Return the tuple of all pieces that meet a piece, in the order of the points from its first end on."""
    check_index(drawing, piece)
    found = meetings_on(drawing, piece)
    common = common_denominator([point for other, point in found])
    way = way_of(drawing.pieces[piece])
    ranked = []
    for other, (x, y) in found:
        # The scalar product with the way grows along it, and equal points have the same one.
        along = way[0] * numerator_over(x, common) + way[1] * numerator_over(y, common)
        ranked.append((along, other))
    return tuple([other for along, other in sorted(ranked)])


def edges(drawing, half):
    """Return a dict from all pairs of cells that are neighbours in chains, ascending, to the pieces of these."""
    found = {}
    for piece, row in enumerate(chains(drawing, half)):
        for cell, after in zip(row, row[1:]):
            found.setdefault((min(cell, after), max(cell, after)), []).append(piece)
    return {pair: tuple(found[pair]) for pair in sorted(found)}
