"""Writing programs as texts."""

STEP_IN = "  "


def write_program(program):
    """Return the text of a program."""
    rows = []
    for name, statements in program.routines:
        rows.extend(_block_rows(f"routine {name}", statements, ""))
    rows.extend(_rows_of(program.body, ""))
    return "".join([row + "\n" for row in rows])


def _rows_of(statements, indent):
    """Return the lines of some statements, without their newlines."""
    rows = []
    for statement in statements:
        rows.extend(_statement_rows(statement, indent))
    return rows


def _statement_rows(statement, indent):
    word = statement[0]
    if word == "release":
        return [indent + word]
    start = f"{word} {statement[1]}"
    if word in ("set", "wait"):
        return [indent + start + (" on" if statement[2] else " off")]
    if word == "repeat":
        return _block_rows(start, statement[2], indent)
    if word == "if":
        return _if_rows(start, statement[2], statement[3], indent)
    return [indent + start]


def _block_rows(start, statements, indent):
    """Return the lines of what begins so and has one list of statements."""
    return [indent + start + " {"] + _rows_of(statements, indent + STEP_IN) + [indent + "}"]


def _if_rows(start, first, second, indent):
    rows = _block_rows(start, first, indent)
    if len(second) > 0:
        rows[-1] = indent + "} else {"
        rows.extend(_rows_of(second, indent + STEP_IN) + [indent + "}"])
    return rows
