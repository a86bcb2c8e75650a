"""Scripts told in another way: rows by a pattern, blocks as nested lists, and steps that are taken from a generator."""

import re
from itertools import islice

import oracle
from model import Model, Refused

ROW = re.compile(r"(put( N){4}|(take|turn|regrid|chain|repeat) N|show|when N N|end)".replace("N", "(0|[1-9][0-9]?)"))


def wrong_row(text):
    """Return the row of which ScriptError tells, None if the text is a script."""
    rows = text.split("\n") if text else []
    depth = 0
    for at, row in enumerate(rows):
        if at == 60 or ROW.fullmatch(row) is None:
            return at
        depth += row.startswith(("repeat", "when")) - (row == "end")
        if not 0 <= depth <= 4:
            return at
    return len(rows) if depth > 0 else None


def blocks_of(rows):
    """Return a list of (row, word, numbers, block), taking rows off a list up to an end."""
    found = []
    while rows:
        at, (word, *numbers) = rows.pop(0)
        if word == "end":
            return found
        block = blocks_of(rows) if word in ("repeat", "when") else None
        found.append((at, word, tuple(map(int, numbers)), block))
    return found


def steps(block, model, output):
    """Execute a block; before each step, yield its row."""
    for at, word, numbers, inner in block:
        yield at
        pieces, half, _ = model.state()
        if word == "repeat":
            for _ in range(*numbers):
                yield at
                yield from steps(inner, model, output)
        elif word == "when":
            if numbers not in oracle.board(half):
                raise Refused("InvalidCell")
            if numbers in oracle.reasons(pieces, half):
                yield from steps(inner, model, output)
        elif word == "show":
            output.append(str(len(oracle.reasons(pieces, half))))
        elif word == "chain":
            if numbers[0] >= len(pieces):
                raise Refused("UnknownPiece")
            output.append("-".join("(%d,%d)" % cell for cell in oracle.chains(pieces, half)[numbers[0]]))
        else:
            model.execute((word, numbers if word == "put" else numbers[0]))


def outcome(half, text):
    """Return what becomes of a script: (error, row), or (model, output)."""
    row = wrong_row(text)
    if row is not None:
        return ("ScriptError", row)
    rows = [(at, words.split(" ")) for at, words in enumerate(text.split("\n"))] if text else []
    model, output, last = Model(half), [], None
    going_on = steps(blocks_of(rows), model, output)
    try:
        for last in islice(going_on, 300):
            pass
        if next(going_on, None) is not None:
            return ("TooLong", None)
    except Refused:
        return ("ExecutionFailed", last)
    return (model, output)


def random_row(numbers, depth, is_calm):
    """Return a row, one that ends a block not outside of all blocks; a calm one can always be executed."""
    words = ["put"] * 4 + ["take", "turn", "regrid", "show", "show", "chain", "repeat", "when", "when"]
    word = numbers.choice((["show", "repeat", "repeat"] if is_calm else words) + ["end"] * depth)
    if word == "put":
        return "put " + " ".join(str(3 * numbers.randint(0, 20)) for _ in range(4))
    if word in ("take", "turn", "chain"):
        return f"{word} {numbers.choice((0, 0, 0, 0, 1, 2))}"
    if word == "regrid":
        return f"regrid {numbers.choice((1, 3, 8, 20, 30, 30, 31))}"
    if word == "repeat":
        return f"repeat {numbers.choice((0, 1, 2, 3, 9, 40))}"
    if word == "when":
        return f"when {numbers.choice((0, 0, 1, 2))} {numbers.choice((0, 0, 1, 2))}"
    return word


def random_script(numbers):
    """Return a text that mostly is a script."""
    rows, depth, is_calm = ["put 0 0 60 0", "put 0 0 0 3"][:numbers.randint(0, 2)], 0, numbers.random() < 0.2
    for _ in range(numbers.randint(0, 14)):
        row = random_row(numbers, depth, is_calm)
        depth += row.startswith(("repeat", "when")) - (row == "end")
        rows.append(row)
    rows += ["end"] * depth
    if rows and numbers.random() < 0.15:
        at = numbers.randrange(len(rows))
        rows[at] = numbers.choice((rows[at] + " 1", rows[at] + " ", rows[at][:-1], "", "end", "repeat 2", "undo"))
    return "\n".join(rows)
