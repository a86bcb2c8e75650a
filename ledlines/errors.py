"""All errors that the package raises."""


class LineError(ValueError):
    """The base class of all errors that the package raises."""


class InvalidDrawing(LineError):
    """No drawing has such pieces; index is that of the first wrong one."""

    def __init__(self, index):
        self.index = index


class UnknownPiece(LineError):
    """A drawing has no piece of this index."""


class SamePiece(LineError):
    """Two pieces are asked for, but one is given twice."""


class InvalidHalf(LineError):
    """No grid has such a half."""


class InvalidNumber(LineError):
    """A number is outside of its range."""


class InvalidPiece(LineError):
    """There is no drawing with this piece behind all others."""


class UnlikeCounts(LineError):
    """Two drawings have not as many pieces."""


class InvalidPoint(LineError):
    """A point is outside of the range of ends."""


class InvalidCell(LineError):
    """A cell is none of those that are asked for."""


class InvalidName(LineError):
    """Nothing can be kept under such a name."""


class UnknownKept(LineError):
    """Nothing is kept under this name."""


class InvalidOperation(LineError):
    """A list has something that is no operation; index is that of the first one."""

    def __init__(self, index):
        self.index = index


class InvalidCount(LineError):
    """There are too few or too many drawings."""


class NoDrawing(LineError):
    """No drawing would be possible any more."""


class InvalidText(LineError):
    """A text tells no drawing; row and word are those of the first wrong word."""

    def __init__(self, row, word):
        self.row = row
        self.word = word


class DecodeError(LineError):
    """A list of numbers tells no drawing; offset is that of the first wrong item."""

    def __init__(self, offset):
        self.offset = offset


class ScriptError(LineError):
    """A text is no script; row is the first wrong one."""

    def __init__(self, row):
        self.row = row


class ExecutionFailed(LineError):
    """A row of a script cannot be executed; row tells which one."""

    def __init__(self, row):
        self.row = row


class TooLong(LineError):
    """A script takes too many steps."""
