"""A sketch that knows nothing but its operations: for each reading, it executes all of them from the start."""

import string

import oracle


class Refused(Exception):
    """An operation raises the error of this name."""


def is_drawing(pieces):
    """Tell whether there is a drawing of these pieces."""
    numbers = [number for piece in pieces for number in piece]
    if len(pieces) > 6 or any(len(piece) != 4 or piece[:2] == piece[2:] for piece in pieces):
        return False
    if any(type(number) is not int or not 0 <= number <= 60 for number in numbers):
        return False
    return all(oracle.shared(one, other) != "more" for at, one in enumerate(pieces) for other in pieces[:at])


def hot(pieces, half):
    return set(oracle.reasons(pieces, half))


def refuse_unless(right, name):
    if not right:
        raise Refused(name)


def step(state, word, argument):
    """Return (state, result) of an operation; a state is a tuple (pieces, half, kept)."""
    pieces, half, kept = state
    if word == "put":
        refuse_unless(is_drawing(pieces + (argument,)), "InvalidPiece")
        after = pieces + (argument,)
        return (after, half, kept), len(hot(after, half) - hot(pieces, half))
    if word in ("take", "turn"):
        refuse_unless(type(argument) is int and argument in range(len(pieces)), "UnknownPiece")
        if word == "take":
            after = tuple(piece for index, piece in enumerate(pieces) if index != argument)
            return (after, half, kept), len(hot(pieces, half) - hot(after, half))
        after = tuple(piece[2:] + piece[:2] if index == argument else piece for index, piece in enumerate(pieces))
        return (after, half, kept), oracle.chains(after, half)[argument]
    if word == "regrid":
        refuse_unless(type(argument) is int and argument in range(1, 31), "InvalidHalf")
        return (pieces, argument, kept), len(hot(pieces, argument))
    if word == "keep_as":
        right = 1 <= len(argument) <= 8 and set(argument) <= set(string.ascii_lowercase)
        refuse_unless(right, "InvalidName")
        return (pieces, half, kept | {argument: (pieces, half)}), argument in kept
    refuse_unless(argument in kept, "UnknownKept")
    return kept[argument] + (kept,), len(kept[argument][0])


class Model:
    def __init__(self, half):
        self.first = ((), half, {})
        self.done, self.undone = [], []

    def state(self):
        state = self.first
        for word, argument in self.done:
            state, _ = step(state, word, argument)
        return state

    def execute(self, operation):
        if operation == ("undo",):
            there_is_one = bool(self.done)
            if there_is_one:
                self.undone.append(self.done.pop())
            return there_is_one
        if operation == ("redo",):
            there_is_one = bool(self.undone)
            if there_is_one:
                self.done.append(self.undone.pop())
            return there_is_one
        _, result = step(self.state(), *operation)
        self.done.append(operation)
        self.undone.clear()
        return result

    def apply_all(self, operations):
        done, undone = self.done[:], self.undone[:]
        try:
            return [self.execute(operation) for operation in operations]
        except Refused:
            self.done, self.undone = done, undone
            raise

    def told(self):
        pieces, half, kept = self.state()
        return [pieces, half, tuple(sorted(hot(pieces, half))), sorted(kept), self.done]


def random_operation(numbers, way_back=True):
    """Return an operation that can be executed, or not."""
    words = ["put"] * 6 + ["take", "turn", "turn", "regrid", "keep_as", "keep_as", "fetch", "fetch"]
    word = numbers.choice(words + ["undo", "undo", "redo", "redo"] * way_back)
    if word in ("undo", "redo"):
        return (word,)
    if word == "put":
        return ("put", tuple(numbers.randint(0, 20) * 3 for _ in range(4)))
    if word in ("take", "turn"):
        return (word, numbers.randint(-1, 6) if numbers.random() < 0.3 else numbers.randint(0, 2))
    if word == "regrid":
        return ("regrid", numbers.choice((0, 1, 2, 5, 9, 30, 31)))
    return (word, numbers.choice(("a", "b", "b", "drawings", "", "drawingss", "A")))
