"""Drawings that are made of straight pieces, and the points in which pieces meet."""

from math import gcd, lcm

from ledlines.errors import InvalidDrawing, SamePiece, UnknownPiece

MOST_PIECES = 6
GREATEST_COORDINATE = 60


class Drawing:
    """A tuple of up to six pieces (x, y, x2, y2) that have at most one point in common by twos."""

    def __init__(self, pieces):
        for index, piece in enumerate(pieces):
            if index == MOST_PIECES or not is_piece(piece) or lies_along_any(piece, pieces[:index]):
                raise InvalidDrawing(index)
        self.pieces = pieces

    def __eq__(self, other):
        return isinstance(other, Drawing) and self.pieces == other.pieces

    def __len__(self):
        return len(self.pieces)


def is_number(value, low, high):
    """Tell whether a value is an integer from low to high; a boolean is none."""
    return isinstance(value, int) and not isinstance(value, bool) and low <= value <= high


def is_piece(piece):
    """Tell whether a tuple is a piece: four coordinates of two different ends."""
    if len(piece) != 4 or not all([is_number(value, 0, GREATEST_COORDINATE) for value in piece]):
        return False
    return piece[:2] != piece[2:]


def check_index(drawing, index):
    """Raise UnknownPiece for an index of no piece."""
    if not is_number(index, 0, len(drawing) - 1):
        raise UnknownPiece("no piece of the drawing has this index")


def check_pair(drawing, one, other):
    """Raise UnknownPiece or SamePiece for what is no pair of indexes of different pieces."""
    check_index(drawing, one)
    check_index(drawing, other)
    if one == other:
        raise SamePiece("two different pieces are needed")


def index_pairs(many):
    """Return the ascending list of all pairs of indexes below a number, the lesser one first."""
    return [(one, other) for one in range(many) for other in range(one + 1, many)]


def cross(one, other):
    """Return the cross product of two vectors, 0 if they are parallel."""
    return one[0] * other[1] - one[1] * other[0]


def way_of(piece):
    """Return the vector from the first end of a piece to its second one."""
    return (piece[2] - piece[0], piece[3] - piece[1])


def way_between(one, other):
    """Return the vector from the first end of a piece to that of another one."""
    return (other[0] - one[0], other[1] - one[1])


def shared_stretch(one, other):
    """Return the ends (start, stop) of what two pieces of one line share; start > stop if they share nothing.

    Tuples ascend along a line, so that they can be compared instead of distances.
    """
    start = max(min(one[:2], one[2:]), min(other[:2], other[2:]))
    stop = min(max(one[:2], one[2:]), max(other[:2], other[2:]))
    return (start, stop)


def lies_along(one, other):
    """Tell whether two pieces have more than one point in common."""
    way = way_of(one)
    if cross(way, way_of(other)) != 0 or cross(way, way_between(one, other)) != 0:
        return False
    start, stop = shared_stretch(one, other)
    return start < stop


def lies_along_any(piece, others):
    """Tell whether a piece has more than one point in common with one of the others."""
    return any([lies_along(piece, other) for other in others])


def lowest_terms(numerator, denominator):
    """Return a fraction in lowest terms, for a denominator from 1 on."""
    common = gcd(numerator, denominator)
    return (numerator // common, denominator // common)


def whole_point(x, y):
    """Return the point of two integers."""
    return ((x, 1), (y, 1))


def parallel_meeting(one, other):
    """Return the end that two parallel pieces have in common, None if there is none."""
    # A drawing has no pieces that lie along each other: parallel ones share an end of both, or nothing.
    start, stop = shared_stretch(one, other)
    if start != stop:
        return None
    return whole_point(start[0], start[1])


def piece_meeting(one, other):
    """Return the point that two pieces of a drawing have in common, None if there is none."""
    way, other_way, between = way_of(one), way_of(other), way_between(one, other)
    whole = cross(way, other_way)
    if whole == 0:
        return parallel_meeting(one, other)
    # The lines meet at part / whole of one way, and at other_part / whole of the other one.
    part, other_part = cross(between, other_way), cross(between, way)
    if whole < 0:
        whole, part, other_part = -whole, -part, -other_part
    if not (0 <= part <= whole and 0 <= other_part <= whole):
        return None
    x = lowest_terms(one[0] * whole + way[0] * part, whole)
    y = lowest_terms(one[1] * whole + way[1] * part, whole)
    return (x, y)


def meeting(drawing, one, other):
    """Return the point that two pieces have in common, None if there is none."""
    check_pair(drawing, one, other)
    return piece_meeting(drawing.pieces[one], drawing.pieces[other])


def numerator_over(fraction, denominator):
    """Return the numerator of a fraction that is extended to a multiple of its denominator."""
    return fraction[0] * (denominator // fraction[1])


def common_denominator(points):
    """Return the least denominator to which all fractions of points can be extended."""
    common = 1
    for x, y in points:
        common = lcm(common, x[1], y[1])
    return common


def by_value(points):
    """Return the list of points in ascending order of the values of their fractions."""
    common = common_denominator(points)
    return sorted(points, key=lambda point: (numerator_over(point[0], common), numerator_over(point[1], common)))


def meetings(drawing):
    """Return the ascending list of all points that two pieces have in common, each once."""
    found = []
    for one, other in index_pairs(len(drawing)):
        point = meeting(drawing, one, other)
        if point is not None and point not in found:
            found.append(point)
    return by_value(found)
