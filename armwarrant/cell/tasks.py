"""Tasks, and whether they can be looked at."""
from armwarrant.arms.moves import Move
from armwarrant.cell.places import places_of
from armwarrant.errors import FlowTooLong, MissingRoutine, RecursiveRoutine
from armwarrant.judge.matters import Mover
from armwarrant.programs.flows import flow_of


class Task:
    """What an arm does in a cell: its flow and its places, or the problem for which it cannot be looked at."""

    def __init__(self, contents, arm):
        self.arm = arm
        self.start, program = contents.tasks[arm]
        self.flow = _flow_or_none(program)
        self.places = []
        if arm not in contents.arms:
            self.problem = ("no arm",)
        elif self.flow is None:
            self.problem = ("no flow",)
        else:
            self.places = places_of(self.flow, self.start)
            self.problem = _problem_of(contents, arm, self.places)

    def first_place(self):
        """Return the place at which the arm begins."""
        return ("rest", self.start, None)


def mover_at(contents, name, place):
    """Return the mover that the arm with a name is at a place."""
    arm = contents.arms[name]
    rows = [contents.points[(name, point)] for point in place[1:-1]]
    held = () if place[-1] is None else contents.parts[place[-1]]
    return Mover(arm, Move(arm, rows[0], rows[-1]), held)


def _flow_or_none(program):
    try:
        return flow_of(program)
    except (MissingRoutine, RecursiveRoutine, FlowTooLong):
        return None


def _problem_of(contents, arm, places):
    """Return the first problem of some places, or None."""
    for place in places:
        for point in place[1:-1]:
            row = contents.points.get((arm, point))
            if row is None:
                return ("no point", point)
            if not contents.arms[arm].fits(row):
                return ("misfit", point)
        if place[-1] is not None and place[-1] not in contents.parts:
            return ("no part", place[-1])
    return None
