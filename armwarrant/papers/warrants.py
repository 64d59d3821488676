"""Warrants: texts that show that a cell can be run, to whoever does not trust the program that made them."""
from armwarrant.cell.survey import Survey
from armwarrant.errors import NotReady, NotSafe
from armwarrant.judge.judging import judge
from armwarrant.order.safety import is_safe
from armwarrant.papers.cells import contents_integers, take_contents
from armwarrant.papers.integers import Integers, written
from armwarrant.papers.things import take_tree, tree_integers

WARRANT = "armwarrant warrant"


def write_warrant(cell):
    """Return the warrant of a cell; raise NotReady or NotSafe if there is none."""
    if not cell.is_runnable():
        raise NotReady("the cell cannot be run")
    if not _begins_safely(cell.make_plan()):
        raise NotSafe("not all arms can surely come to their ends")
    integers = contents_integers(cell.contents)
    for question in cell.questions:
        word, tree = cell.verdict(question)
        if word == "clear":
            integers.extend([1] + tree_integers(tree))
        else:
            integers.append(0)
    return written(WARRANT, integers)


def is_warrant(text):
    """Return True if the warrant holds."""
    integers = Integers(WARRANT, text)
    survey = Survey(take_contents(integers))
    trees = {question: _take_tree_or_none(integers) for question in survey.questions}
    integers.check_end()
    for question, tree in trees.items():
        if tree is not None and not judge(survey.matter_of(question), tree):
            return False
    clear = {question: tree is not None for question, tree in trees.items()}
    return survey.is_runnable(clear) and _begins_safely(survey.make_plan(clear))


def _begins_safely(plan):
    return is_safe(plan, plan.first_state())


def _take_tree_or_none(integers):
    return take_tree(integers) if integers.take_below(2) == 1 else None
