"""The cell: what stands in it, what its arms do, and what is clear of what."""
from armwarrant.cell.contents import Contents
from armwarrant.cell.edits import edited
from armwarrant.cell.survey import Survey
from armwarrant.errors import NotReady
from armwarrant.judge.finding import find_verdict
from armwarrant.runner.runner import Runner


class Cell:
    """The contents of a cell, and the finder's verdict on each question about them."""

    def __init__(self):
        self.contents = Contents()
        self.questions = []
        self.survey = Survey(self.contents)
        self.keys_of_questions = {}
        # What was told of the matters of the questions, by their keys, and of no others.
        self.told_of = {}
        self.before = []
        self.behind = []

    def edit(self, edits):
        """Make edits at once, and return how many matters were judged."""
        contents = edited(self.contents, edits)
        self.before.append(self.contents)
        self.behind = []
        return self._show(contents)

    def undo(self):
        """Take back the last edits, and return how many matters were judged, or None if there are none."""
        if len(self.before) == 0:
            return None
        self.behind.append(self.contents)
        return self._show(self.before.pop())

    def redo(self):
        """Make the edits again that were taken back last, and return how many matters were judged, or None."""
        if len(self.behind) == 0:
            return None
        self.before.append(self.contents)
        return self._show(self.behind.pop())

    def verdict(self, question):
        """Return what was told of a question, or None if it is not asked."""
        key = self.keys_of_questions.get(question)
        return None if key is None else self.told_of[key]

    def flaws(self):
        """Return the questions about one arm that are not told clear."""
        return self.survey.flaws(self._clear())

    def problems(self):
        """Return the arms whose tasks cannot be looked at, each with its problem."""
        return [(task.arm, task.problem) for task in self.survey.unseen]

    def arms_in_order(self):
        """Return the names of the arms whose tasks can be looked at."""
        return [task.arm for task in self.survey.seen]

    def is_runnable(self):
        """Return True if the cell can be run."""
        return self.survey.is_runnable(self._clear())

    def make_plan(self):
        """Return the plan of the cell."""
        if len(self.survey.seen) == 0:
            raise NotReady("no task can be looked at")
        return self.survey.make_plan(self._clear())

    def start_runner(self):
        """Return a new runner of the plan."""
        if not self.is_runnable():
            raise NotReady("the cell cannot be run")
        return Runner(self.make_plan())

    def _clear(self):
        """Return of each question whether it is told clear."""
        return {question: self.told_of[key][0] == "clear" for question, key in self.keys_of_questions.items()}

    def _show(self, contents):
        """Take other contents, and return how many matters were judged."""
        survey = Survey(contents)
        known = self.told_of if contents.depth == self.contents.depth else {}
        keys = {question: survey.key_of(question) for question in survey.questions}
        told_of = {}
        judged = 0
        for question, key in keys.items():
            if key in told_of:
                continue
            if key in known:
                told_of[key] = known[key]
            else:
                told_of[key] = find_verdict(survey.matter_of(question), contents.depth).told()
                judged += 1
        self.contents = contents
        self.questions = survey.questions
        self.survey = survey
        self.told_of = told_of
        self.keys_of_questions = keys
        return judged
