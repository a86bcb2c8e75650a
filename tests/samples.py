"""Drawings of 0 to 6 pieces, the same ones in each run, for tests that compare the program with the oracle."""

from random import Random

import oracle

HALVES = (1, 2, 3, 5, 8, 30)


def drawing_of(many, size, numbers):
    """Return the pieces of a drawing with coordinates from 0 to a size."""
    found = []
    while len(found) < many:
        piece = tuple(numbers.randint(0, size) for _ in range(4))
        if piece[:2] != piece[2:] and all(oracle.shared(piece, other) != "more" for other in found):
            found.append(piece)
    return tuple(found)


def samples(each=3):
    """Return a list of drawings' pieces, so many of each number of pieces and each size."""
    numbers = Random(16)
    return [drawing_of(many, size, numbers) for many in range(7) for size in (7, 24, 60) for _ in range(each)]
