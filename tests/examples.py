"""Runs examples that are written as in the document: rows behind >>>, then one row that tells the result."""


def told_error(error):
    told = ", ".join(f"{name}={value!r}" for name, value in vars(error).items())
    return f"raises {type(error).__name__}({told})"


def run_example(text):
    """Return the row that an example has, and the row that it should have, as texts."""
    rows = text.strip("\n").split("\n")
    code = [row.removeprefix(">>> ") for row in rows[:-1]]
    names = {}
    exec("\n".join(code[:-1]), names)
    try:
        return repr(eval(code[-1], names)), rows[-1]
    except ValueError as error:
        return told_error(error), rows[-1]
