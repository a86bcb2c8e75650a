"""Chains that are led again: along the straight lines between the centres of their own cells."""

from ledlines.cells import cells_on, chains, hot_cells, hot_on
from ledlines.drawings import is_number
from ledlines.errors import InvalidNumber

MOST_TIMES = 99


def lead_on(row, half, hot):
    """Return the chain that is made of a chain by leading it again."""
    found = list(row[:1])
    for (i, j), (i2, j2) in zip(row, row[1:]):
        line = (2 * i * half, 2 * j * half, 2 * i2 * half, 2 * j2 * half)
        # A line begins in the hot cell in which the one before it ended.
        found.extend(hot_on(line, half, hot)[1:])
    return tuple(found)


def led_again(drawing, half, times):
    """Return the list of all chains that have been led again so many times."""
    hot = hot_cells(drawing, half)
    if not is_number(times, 0, MOST_TIMES):
        raise InvalidNumber("chains are led again 0 to 99 times")
    rows = chains(drawing, half)
    for _ in range(times):
        rows = [lead_on(row, half, hot) for row in rows]
    return rows


def lead_until_still(drawing, half):
    """Return (times, rows): how often chains change by being led again, and the chains behind that."""
    hot = hot_cells(drawing, half)
    rows = chains(drawing, half)
    times = 0
    # This ends: a chain that changes gets longer, but in both numbers of its cells it never turns back.
    while True:
        after = [lead_on(row, half, hot) for row in rows]
        if after == rows:
            return (times, rows)
        rows = after
        times += 1


def still_after(drawing, half):
    """Return the least number of times behind which leading chains again changes nothing any more."""
    times, _ = lead_until_still(drawing, half)
    return times


def far_cells(drawing, half):
    """Return the ascending tuple of all pieces whose chains have, in the end, a cell without a point of the piece."""
    _, rows = lead_until_still(drawing, half)
    found = []
    for index, (piece, row) in enumerate(zip(drawing.pieces, rows)):
        own = cells_on(piece, half)
        if not all([cell in own for cell in row]):
            found.append(index)
    return tuple(found)
