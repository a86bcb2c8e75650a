"""Scripts: rows of words that are executed on a sketch."""

from ledlines.boards import is_on_board
from ledlines.errors import ExecutionFailed, LineError, ScriptError, TooLong
from ledlines.notation import chain_text, is_number_word, word_rows
from ledlines.sketches import Sketch

NUMBERS_BEHIND = {"put": 4, "take": 1, "turn": 1, "regrid": 1, "show": 0, "chain": 1, "repeat": 1, "when": 2, "end": 0}
BLOCKS = ("repeat", "when")
GREATEST_NUMBER = 99
MOST_ROWS = 60
MOST_BLOCKS = 4
MOST_STEPS = 300


def is_row(words):
    """Tell whether these are the words of a row of a script."""
    if words[0] not in NUMBERS_BEHIND or len(words) != 1 + NUMBERS_BEHIND[words[0]]:
        return False
    return all([is_number_word(word, GREATEST_NUMBER) for word in words[1:]])


def read_script(text):
    """Return (rows, ends): tuples (word, numbers), and a dict from the first rows of blocks to those of their ends."""
    rows = []
    ends = {}
    begun = []
    for at, words in enumerate(word_rows(text)):
        if at == MOST_ROWS or not is_row(words):
            raise ScriptError(at)
        if words[0] in BLOCKS:
            begun.append(at)
        if len(begun) > MOST_BLOCKS or (words[0] == "end" and begun == []):
            raise ScriptError(at)
        if words[0] == "end":
            ends[begun.pop()] = at
        rows.append((words[0], tuple([int(word) for word in words[1:]])))
    if begun != []:
        raise ScriptError(len(rows))
    return (rows, ends)


class Run:
    """One execution of the rows of a script on a sketch, with the lines that it writes."""

    def __init__(self, sketch, rows, ends):
        self.sketch = sketch
        self.rows = rows
        self.ends = ends
        self.steps = 0
        self.output = []

    def count_step(self):
        """Raise TooLong if there have been as many steps as there may be."""
        if self.steps == MOST_STEPS:
            raise TooLong("a script takes at most 300 steps")
        self.steps += 1

    def execute_rows(self, start, stop):
        """Execute the rows from one on, up to that before another one."""
        at = start
        while at < stop:
            self.count_step()
            self.execute_row(at)
            # Behind a block it goes on behind its end, which is no step.
            at = self.ends.get(at, at) + 1

    def execute_row(self, at):
        """Execute a row, with the rows of the block that it begins."""
        word, numbers = self.rows[at]
        if word == "repeat":
            for _ in range(numbers[0]):
                self.count_step()
                self.execute_rows(at + 1, self.ends[at])
        elif word == "when":
            if self.is_hot(at, numbers):
                self.execute_rows(at + 1, self.ends[at])
        else:
            try:
                self.execute_words(word, numbers)
            except LineError:
                raise ExecutionFailed(at) from None

    def is_hot(self, at, cell):
        """Tell whether the cell that a row names is hot."""
        if not is_on_board(cell, self.sketch.half_now):
            raise ExecutionFailed(at)
        return cell in self.sketch.hot_now

    def execute_words(self, word, numbers):
        """Execute what is no block: write a line, or change the sketch."""
        if word == "show":
            self.output.append(str(len(self.sketch.hot_now)))
        elif word == "chain":
            self.output.append(chain_text(self.sketch.drawing_now, self.sketch.half_now, numbers[0]))
        else:
            argument = numbers if word == "put" else numbers[0]
            self.sketch.apply_all([(word, argument)])


def run_script(half, text):
    """Return (sketch, output): a sketch on which a script has been executed, and the list of the lines it wrote."""
    sketch = Sketch(half)
    rows, ends = read_script(text)
    run = Run(sketch, rows, ends)
    run.execute_rows(0, len(rows))
    return (sketch, run.output)
