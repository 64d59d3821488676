"""Certificates and meetings as texts."""
from armwarrant.errors import InvalidArm, InvalidMove, InvalidPaper, InvalidShape
from armwarrant.judge.judging import is_meeting, judge
from armwarrant.papers.integers import Integers, written
from armwarrant.papers.things import matter_integers, take_matter, take_tree, tree_integers

CERTIFICATE = "armwarrant certificate"
MEETING = "armwarrant meeting"


def write_certificate(matter, tree):
    """Return the text of a matter and a tree."""
    return written(CERTIFICATE, matter_integers(matter) + tree_integers(tree))


def write_meeting(matter, first, second):
    """Return the text of a matter and two parts."""
    return written(MEETING, matter_integers(matter) + [*first, *second])


def read_certificate(text):
    """Return the matter and the tree of a text."""
    integers = Integers(CERTIFICATE, text)
    matter = _read_matter(integers)
    tree = take_tree(integers)
    integers.check_end()
    return (matter, tree)


def read_meeting(text):
    """Return the matter and the two parts of a text."""
    integers = Integers(MEETING, text)
    matter = _read_matter(integers)
    first = tuple(integers.take_row(2))
    second = tuple(integers.take_row(2))
    integers.check_end()
    return (matter, first, second)


def is_certificate(text):
    """Return True if the judge accepts the tree of a text for its matter."""
    matter, tree = read_certificate(text)
    return judge(matter, tree)


def is_sure_meeting(text):
    """Return True if the parts of a text are a meeting of its matter."""
    matter, first, second = read_meeting(text)
    return is_meeting(matter, first, second)


def _read_matter(integers):
    try:
        return take_matter(integers)
    except (InvalidArm, InvalidShape, InvalidMove):
        raise InvalidPaper("there can be no such matter") from None
