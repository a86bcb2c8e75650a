"""A drawing that is worked on, by operations that can be undone, done again, and tried out."""

from ledlines.cells import chain, hot_cells
from ledlines.changes import put_in, taken_out, with_piece, without_piece
from ledlines.drawings import Drawing, check_index
from ledlines.errors import InvalidName, InvalidOperation, UnknownKept

LONGEST_NAME = 8


class Stand:
    """What there is on a sketch at one time. It is never changed, so that a sketch can return to it."""

    def __init__(self, drawing, half, kept):
        # This raises InvalidHalf for what is no half of a grid.
        self.hot = hot_cells(drawing, half)
        self.drawing = drawing
        self.half = half
        self.kept = kept


def after_put(now, piece):
    """Return (result, stand) of putting a piece in behind all others."""
    cells, _ = put_in(now.drawing, piece, now.half)
    return (len(cells), Stand(with_piece(now.drawing, piece), now.half, now.kept))


def after_take(now, index):
    """Return (result, stand) of taking a piece out."""
    cells, _ = taken_out(now.drawing, index, now.half)
    return (len(cells), Stand(without_piece(now.drawing, index), now.half, now.kept))


def after_turn(now, index):
    """Return (result, stand) of exchanging the ends of a piece."""
    check_index(now.drawing, index)
    pieces = now.drawing.pieces
    turned = pieces[index][2:] + pieces[index][:2]
    drawing = Drawing(pieces[:index] + (turned,) + pieces[index + 1:])
    return (chain(drawing, now.half, index), Stand(drawing, now.half, now.kept))


def after_regrid(now, half):
    """Return (result, stand) of taking another grid."""
    after = Stand(now.drawing, half, now.kept)
    return (len(after.hot), after)


def after_keep_as(now, name):
    """Return (result, stand) of keeping all that there is under a name."""
    if not 1 <= len(name) <= LONGEST_NAME or not all(["a" <= letter <= "z" for letter in name]):
        raise InvalidName("a name has one to eight letters a to z")
    kept = {**now.kept, name: (now.drawing, now.half)}
    return (name in now.kept, Stand(now.drawing, now.half, kept))


def after_fetch(now, name):
    """Return (result, stand) of returning to what was kept under a name."""
    if name not in now.kept:
        raise UnknownKept("nothing is kept under this name")
    drawing, half = now.kept[name]
    return (len(drawing), Stand(drawing, half, now.kept))


CHANGES = {
    "put": after_put,
    "take": after_take,
    "turn": after_turn,
    "regrid": after_regrid,
    "keep_as": after_keep_as,
    "fetch": after_fetch,
}
WAYS_BACK = ("undo", "redo")


def is_operation(operation):
    """Tell whether a value is a tuple of the name of an operation, undo or redo, and as many arguments as it takes."""
    if not isinstance(operation, tuple) or operation == () or not isinstance(operation[0], str):
        return False
    if operation[0] in WAYS_BACK:
        return len(operation) == 1
    return operation[0] in CHANGES and len(operation) == 2


class Sketch:
    """A drawing that is worked on, on a grid."""

    def __init__(self, half):
        # (now, past, undone): the past are pairs of operations in effect and the stands before them, the undone ones
        # pairs of operations and the stands behind them, the next one last. All that changes is put in this one place
        # as a new tuple, so that a trial can keep it and return to it.
        self.course = (Stand(Drawing(()), half, {}), (), ())

    @property
    def drawing_now(self):
        """The drawing."""
        return self.course[0].drawing

    @property
    def half_now(self):
        """The half of the grid."""
        return self.course[0].half

    @property
    def hot_now(self):
        """The ascending tuple of all hot cells."""
        return self.course[0].hot

    @property
    def kept_under(self):
        """The ascending list of all names under which something is kept."""
        return sorted(self.course[0].kept)

    @property
    def history(self):
        """The list of all operations in effect, in order."""
        return [operation for operation, before in self.course[1]]

    def put(self, piece):
        """Put a piece in behind all others; return how many cells become hot."""
        return self.change("put", piece)

    def take(self, index):
        """Take a piece out; return how many cells are not hot any more."""
        return self.change("take", index)

    def turn(self, index):
        """Exchange the ends of a piece; return its chain then."""
        return self.change("turn", index)

    def regrid(self, half):
        """Take another grid; return how many cells are hot then."""
        return self.change("regrid", half)

    def keep_as(self, name):
        """Keep all that there is under a name; return whether something was kept under it before."""
        return self.change("keep_as", name)

    def fetch(self, name):
        """Return to what was kept under a name; return how many pieces there are then."""
        return self.change("fetch", name)

    def change(self, word, argument):
        """Execute an operation, and return its result."""
        now, past, _ = self.course
        action = CHANGES[word]
        result, after = action(now, argument)
        self.course = (after, past + (((word, argument), now),), ())
        return result

    def undo(self):
        """Undo the last operation in effect; return whether there was one."""
        now, past, undone = self.course
        if past == ():
            return False
        operation, before = past[-1]
        self.course = (before, past[:-1], undone + ((operation, now),))
        return True

    def redo(self):
        """Execute the operation that was undone last once more; return whether there was one."""
        now, past, undone = self.course
        if undone == ():
            return False
        # It was undone from here, so that it leads to where it led before.
        operation, after = undone[-1]
        self.course = (after, past + ((operation, now),), undone[:-1])
        return True

    def execute(self, operation):
        """Execute an operation, undo or redo, that is told by a tuple, and return its result."""
        if operation[0] == "undo":
            return self.undo()
        if operation[0] == "redo":
            return self.redo()
        word, argument = operation
        return self.change(word, argument)

    def apply_all(self, operations):
        """Execute a list of operations, all or none of them, and return the list of their results."""
        for index, operation in enumerate(operations):
            if not is_operation(operation):
                raise InvalidOperation(index)
        results = []
        with Trial(self) as trial:
            for operation in operations:
                results.append(self.execute(operation))
            trial.hold()
        return results

    def tried_out(self, operations, keep):
        """Execute a list of operations, return the list of their results, and keep what they change if asked to."""
        with Trial(self) as trial:
            results = self.apply_all(operations)
            if keep is True:
                trial.hold()
        return results

    @classmethod
    def replay(cls, half, operations):
        """Return a sketch after a list of operations."""
        sketch = cls(half)
        sketch.apply_all(operations)
        return sketch


class Trial:
    """A context manager behind whose block a sketch is as it was before, unless hold is called in the block."""

    def __init__(self, sketch):
        self.sketch = sketch
        # The course to which the end of a block returns, None where it returns to none.
        self.before = None

    def __enter__(self):
        # Each block begins with its own course, so that hold counts in the block alone in which it is called.
        self.before = self.sketch.course
        return self

    def __exit__(self, kind, value, trace):
        sketch = self.sketch
        if self.before is not None:
            sketch.course = self.before

    def hold(self):
        """Keep what the block changes."""
        self.before = None
