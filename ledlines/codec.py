"""Codes of drawings: lists of small numbers with a checksum."""

from ledlines.drawings import GREATEST_COORDINATE, MOST_PIECES, Drawing, is_number
from ledlines.errors import DecodeError

FIRST_ITEM = 109
PIECES_AT = 2
NUMBERS_OF_PIECE = 4


def checksum_of(values):
    """Return the checksum of the items before it."""
    checksum = 13
    for value in values:
        checksum = (23 * checksum + value) % 211
    return checksum


def encode_drawing(drawing):
    """Return the code of a drawing."""
    values = [FIRST_ITEM, len(drawing)] + [number for piece in drawing.pieces for number in piece]
    return values + [checksum_of(values)]


def item_at(values, offset, low, high):
    """Return an item of a code; raise DecodeError if it is missing or no integer from low to high."""
    if offset == len(values) or not is_number(values[offset], low, high):
        raise DecodeError(offset)
    return values[offset]


def decode_drawing(values):
    """Return the drawing of a code."""
    item_at(values, 0, FIRST_ITEM, FIRST_ITEM)
    behind = PIECES_AT + NUMBERS_OF_PIECE * item_at(values, 1, 0, MOST_PIECES)
    numbers = [item_at(values, offset, 0, GREATEST_COORDINATE) for offset in range(PIECES_AT, behind)]
    checksum = checksum_of(values[:behind])
    item_at(values, behind, checksum, checksum)
    if len(values) > behind + 1:
        raise DecodeError(behind + 1)
    starts = range(0, len(numbers), NUMBERS_OF_PIECE)
    return Drawing(tuple([tuple(numbers[start:start + NUMBERS_OF_PIECE]) for start in starts]))
