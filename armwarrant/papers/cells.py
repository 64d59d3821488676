"""The contents of cells as texts."""
from armwarrant.cell.contents import Contents
from armwarrant.cell.edits import edited
from armwarrant.errors import InvalidArm, InvalidEdit, InvalidPaper, InvalidProgram, InvalidShape
from armwarrant.papers.integers import Integers, written
from armwarrant.papers.things import arm_integers, bodies_integers, solid_integers, take_arm, take_bodies, take_solid
from armwarrant.programs.writing import write_program

CELL = "armwarrant cell"
CHARACTERS = "\n abcdefghijklmnopqrstuvwxyz0123456789_{}"


def write_contents(contents):
    """Return the text of the contents of a cell."""
    return written(CELL, contents_integers(contents))


def read_contents(text):
    """Return the contents of a text."""
    integers = Integers(CELL, text)
    contents = take_contents(integers)
    integers.check_end()
    return contents


def contents_integers(contents):
    """Return the integers of contents."""
    integers = [contents.depth, len(contents.arms)]
    for name, arm in contents.arms.items():
        integers.extend(_string_integers(name) + arm_integers(arm))
    integers.append(len(contents.solids))
    for name, solid in contents.solids.items():
        integers.extend(_string_integers(name) + solid_integers(solid))
    integers.append(len(contents.parts))
    for name, bodies in contents.parts.items():
        integers.extend(_string_integers(name) + bodies_integers(bodies))
    integers.append(len(contents.points))
    for (arm, name), row in contents.points.items():
        integers.extend(_string_integers(arm) + _string_integers(name) + [len(row), *row])
    integers.append(len(contents.tasks))
    for arm, (start, program) in contents.tasks.items():
        integers.extend(_string_integers(arm) + _string_integers(start) + _string_integers(write_program(program)))
    return integers


def take_contents(integers):
    """Return the contents that come next."""
    try:
        edits = _take_edits(integers)
        contents = edited(Contents(), edits)
    except (InvalidArm, InvalidShape, InvalidProgram, InvalidEdit):
        raise InvalidPaper("there can be no such contents") from None
    _check_names(contents, edits)
    _check_programs(contents, edits)
    return contents


def _take_edits(integers):
    """Return the edits that make the contents that come next out of none."""
    edits = [("depth", integers.take())]
    for _ in range(integers.take_size()):
        name = _take_string(integers)
        edits.append(("arm", name, take_arm(integers)))
    for _ in range(integers.take_size()):
        name = _take_string(integers)
        edits.append(("solid", name, take_solid(integers)))
    for _ in range(integers.take_size()):
        name = _take_string(integers)
        edits.append(("part", name, take_bodies(integers)))
    for _ in range(integers.take_size()):
        arm = _take_string(integers)
        name = _take_string(integers)
        edits.append(("point", arm, name, integers.take_row(integers.take_size())))
    for _ in range(integers.take_size()):
        arm = _take_string(integers)
        start = _take_string(integers)
        edits.append(("task", arm, start, _take_string(integers)))
    return edits


def _check_names(contents, edits):
    """Check that no edit took the place of an earlier one: then there are as many things as edits of things."""
    lists = (contents.arms, contents.solids, contents.parts, contents.points, contents.tasks)
    if sum([len(things) for things in lists]) != len(edits) - 1:
        raise InvalidPaper("a name stands twice in one list")


def _check_programs(contents, edits):
    """Check that the texts of the programs are those that are written."""
    texts = [edit[3] for edit in edits if edit[0] == "task"]
    if texts != [write_program(program) for _, program in contents.tasks.values()]:
        raise InvalidPaper("a program is not written as it should be")


def _string_integers(string):
    return [len(string)] + [CHARACTERS.index(letter) for letter in string]


def _take_string(integers):
    size = integers.take_size()
    return "".join([CHARACTERS[integers.take_below(len(CHARACTERS))] for _ in range(size)])
