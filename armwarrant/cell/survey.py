"""What is asked about the contents of a cell, and what follows from the questions that are told clear."""
from armwarrant.cell.keys import mover_key, solid_key
from armwarrant.cell.tasks import Task, mover_at
from armwarrant.judge.matters import Matter
from armwarrant.order.plan import Plan

WIDEST = 20000


class Survey:
    """The tasks of the contents of a cell, those that can be looked at, and the questions about them.

    Where questions that are told clear are passed, they are a dict: of each question, True or False.
    """

    def __init__(self, contents):
        self.contents = contents
        tasks = [Task(contents, arm) for arm in contents.tasks]
        self.unseen = [task for task in tasks if task.problem is not None]
        self.seen = [task for task in tasks if task.problem is None]
        self.movers = {}
        self.mover_keys = {}
        for task in self.seen:
            for place in task.places:
                mover = mover_at(contents, task.arm, place)
                self.movers[(task.arm, place)] = mover
                self.mover_keys[(task.arm, place)] = mover_key(mover)
        self.questions = self._all_questions()

    def matter_of(self, question):
        """Return the matter about which the question asks."""
        mover = self.movers[(question[1], question[2])]
        if question[0] == "solid":
            return Matter("shape", mover, self.contents.solids[question[3]])
        if question[0] == "self":
            return Matter("self", mover)
        return Matter("arms", mover, self.movers[(question[3], question[4])])

    def key_of(self, question):
        """Return the key of the matter about which the question asks."""
        kind = question[0]
        key = self.mover_keys[(question[1], question[2])]
        if kind == "solid":
            return (kind, key, solid_key(self.contents.solids[question[3]]))
        if kind == "self":
            return (kind, key, self.contents.arms[question[1]].beside)
        return (kind, key, self.mover_keys[(question[3], question[4])])

    def flaws(self, clear):
        """Return the questions about one arm that are not told clear."""
        return [question for question in self.questions if question[0] != "arms" and not clear[question]]

    def make_plan(self, clear):
        """Return the plan of the tasks that can be looked at; there is one at least."""
        numbers = {task.arm: number for number, task in enumerate(self.seen)}
        blocked = [
            (numbers[question[1]], question[2], numbers[question[3]], question[4])
            for question in self.questions if question[0] == "arms" and not clear[question]
        ]
        flows = [task.flow for task in self.seen]
        return Plan(flows, [task.start for task in self.seen], blocked=blocked)

    def is_runnable(self, clear):
        """Return True if a cell with these contents can be run."""
        if len(self.seen) == 0 or len(self.unseen) > 0 or len(self.flaws(clear)) > 0:
            return False
        if self.make_plan(clear).width > WIDEST:
            return False
        starts = [(task.arm, task.first_place()) for task in self.seen]
        first_questions = [("arms", *mine, *theirs) for mine, theirs in _each_two(starts)]
        return all([clear[question] for question in first_questions])

    def _all_questions(self):
        questions = []
        for task in self.seen:
            for place in task.places:
                questions.extend([("solid", task.arm, place, solid) for solid in self.contents.solids])
                questions.append(("self", task.arm, place))
        for task, other in _each_two(self.seen):
            questions.extend([
                ("arms", task.arm, place, other.arm, other_place)
                for place in task.places for other_place in other.places
            ])
        return questions


def _each_two(rows):
    """Return the pairs of two of the rows, the first one first."""
    return [(row, other) for at, row in enumerate(rows) for other in rows[at + 1:]]
