"""Pictures of boards, and texts of chains and drawings."""

from ledlines.boards import last_number, touched
from ledlines.cells import chain, hot_cells
from ledlines.drawings import GREATEST_COORDINATE, MOST_PIECES, Drawing
from ledlines.errors import InvalidText

FIRST_WORD = "piece"
WORDS_IN_ROW = 5


def sign_of(cell, hot, busy):
    """Return the sign of a cell in a picture."""
    if cell in hot:
        return "#"
    return "+" if cell in busy else "."


def picture(drawing, half):
    """Return a text of all cells of the board, the greatest second number on top."""
    hot, busy = hot_cells(drawing, half), touched(drawing, half)
    numbers = list(range(last_number(half) + 1))
    rows = ["".join([sign_of((i, j), hot, busy) for i in numbers]) for j in reversed(numbers)]
    return "\n".join(rows)


def chain_text(drawing, half, piece):
    """Return the cells of a piece's chain as a text."""
    return "-".join([f"({i},{j})" for i, j in chain(drawing, half, piece)])


def format_drawing(drawing):
    """Return the text of a drawing."""
    return "\n".join([f"{FIRST_WORD} {x} {y} {x2} {y2}" for x, y, x2, y2 in drawing.pieces])


def word_rows(text):
    """Return the list of the rows of a text, each a list of words that are separated by single blanks."""
    # The empty text has no rows, but an empty row has an empty word, which is always a wrong one.
    return [row.split(" ") for row in text.split("\n")] if text != "" else []


def is_number_word(word, greatest):
    """Tell whether a word is a number from 0 on, written without needless zeros."""
    return word in [str(number) for number in range(greatest + 1)]


def fits(word, at):
    """Tell whether a word can have this number in the row of a piece."""
    if at == 0:
        return word == FIRST_WORD
    return at < WORDS_IN_ROW and is_number_word(word, GREATEST_COORDINATE)


def check_row(row, words):
    """Raise InvalidText for the first word of a row that is wrong, superfluous or missing."""
    for at, word in enumerate(words):
        if not fits(word, at):
            raise InvalidText(row, at)
    if len(words) < WORDS_IN_ROW:
        raise InvalidText(row, len(words))


def parse_drawing(text):
    """Return the drawing of a text."""
    pieces = []
    for row, words in enumerate(word_rows(text)):
        if row == MOST_PIECES:
            raise InvalidText(row, 0)
        check_row(row, words)
        pieces.append(tuple([int(word) for word in words[1:]]))
    return Drawing(tuple(pieces))
