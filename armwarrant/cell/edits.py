"""Edits: what changes the contents of a cell."""
from armwarrant.errors import InvalidEdit
from armwarrant.programs.reading import read_program
from armwarrant.programs.words import is_name

MOST_THINGS = {"arm": 4, "solid": 12, "part": 6, "point": 40}
MOST_BODIES = 4
DEEPEST = 12


def edited(contents, edits):
    """Return the contents after some edits; raise the error that tells which one cannot be made."""
    programs = [read_program(edit[3]) if edit[0] == "task" else None for edit in edits]
    found = contents.copied()
    for at, (edit, program) in enumerate(zip(edits, programs)):
        if not _make(found, edit, program):
            raise InvalidEdit(at)
    return found


def _make(contents, edit, program):
    """Make an edit; return False if it cannot be made."""
    kind = edit[0]
    if kind == "depth":
        contents.depth = edit[1]
        return 0 <= edit[1] <= DEEPEST
    if kind == "without":
        return _take_away(_things(contents, edit[1]), _key(edit[1:]))
    if not all([is_name(name) for name in _names(edit)]):
        return False
    things = _things(contents, kind)
    if kind == "task":
        things[_key(edit)] = (edit[2], program)
    elif kind == "point":
        things[_key(edit)] = tuple(edit[3])
    elif kind == "part":
        things[_key(edit)] = tuple(edit[2])
        if not 1 <= len(edit[2]) <= MOST_BODIES:
            return False
    else:
        things[_key(edit)] = edit[2]
    # There is no bound for tasks.
    return kind == "task" or len(things) <= MOST_THINGS[kind]


def _take_away(things, key):
    if key not in things:
        return False
    del things[key]
    return True


def _things(contents, kind):
    """Return the things of a kind."""
    if kind == "arm":
        return contents.arms
    if kind == "solid":
        return contents.solids
    if kind == "part":
        return contents.parts
    return contents.points if kind == "point" else contents.tasks


def _key(edit):
    """Return by what the thing of an edit is named."""
    return (edit[1], edit[2]) if edit[0] == "point" else edit[1]


def _names(edit):
    """Return the names in an edit that puts a thing into the cell."""
    return [edit[1], edit[2]] if edit[0] in ("point", "task") else [edit[1]]
