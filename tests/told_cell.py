"""What a cell asks and tells, once more, step by step as points [82] to [87] tell it, for the tests."""
from things import ZERO, ball

from armwarrant.arms.arm import Arm, Capsule
from armwarrant.arms.joints import Joint
from armwarrant.arms.moves import Move
from armwarrant.cell.cell import Cell
from armwarrant.errors import FlowTooLong, MissingRoutine, RecursiveRoutine
from armwarrant.judge.finding import find_verdict
from armwarrant.judge.matters import Matter, Mover
from armwarrant.programs.flows import flow_of, landing

FAR = 100000


def slide_arm(y=0, radius=10, axis=0, **others):
    """Return an arm with a ball that slides along x, or another axis, at some y."""
    return Arm([Joint(False, axis, (0, y, 0), -FAR, FAR, **others)], [Capsule(1, ball(ZERO, radius))])


def filled(*edits):
    cell = Cell()
    cell.edit(list(edits))
    return cell


def told_pairs(flow, start):
    """Return all triples of an index, a point and a part that can be reached, in no order."""
    found, ahead = set(), [(landing(flow, 0), start, None)]
    while ahead:
        at, point, held = ahead.pop()
        if (at, point, held) in found:
            continue
        found.add((at, point, held))
        if at == len(flow):
            continue
        step = flow[at]
        if step[0] == "move":
            ahead.append((landing(flow, at + 1), step[1], held))
        elif step[0] == "hold":
            ahead.append((landing(flow, at + 1), point, step[1]))
        else:
            ahead.append((landing(flow, at + 1), point, held))
        if step[0] == "if":
            ahead.append((landing(flow, step[2]), point, held))
    return found


def told_places(flow, start):
    """Return the set of the places of a flow."""
    places = set()
    for at, point, held in told_pairs(flow, start):
        places.add(("rest", point, held))
        if at < len(flow) and flow[at][0] == "move":
            places.add(("move", point, flow[at][1], held))
    return places


def told_flow(program):
    try:
        return flow_of(program)
    except (MissingRoutine, RecursiveRoutine, FlowTooLong):
        return None


def told_problem(contents, arm, places):
    """Return the problem of a task whose places are known, or None."""
    if arm not in contents.arms:
        return ("no arm",)
    if places is None:
        return ("no flow",)
    for place in places:
        for name in place[1:-1]:
            if (arm, name) not in contents.points:
                return ("no point", name)
            if not contents.arms[arm].fits(contents.points[(arm, name)]):
                return ("misfit", name)
        if place[-1] is not None and place[-1] not in contents.parts:
            return ("no part", place[-1])
    return None


def told_mover(contents, name, place):
    arm = contents.arms[name]
    first = contents.points[(name, place[1])]
    last = first if place[0] == "rest" else contents.points[(name, place[2])]
    held = contents.parts[place[-1]] if place[-1] is not None else ()
    return Mover(arm, Move(arm, first, last), held)


def told_matters(contents, places_of_arms):
    """Return the dict of all questions with their matters, where the places of the arms are known, in order."""
    matters = {}
    arms = list(places_of_arms)
    for arm in arms:
        for place in places_of_arms[arm]:
            mover = told_mover(contents, arm, place)
            for solid in contents.solids:
                matters[("solid", arm, place, solid)] = Matter("shape", mover, contents.solids[solid])
            matters[("self", arm, place)] = Matter("self", mover)
    for at, arm in enumerate(arms):
        for other in arms[at + 1:]:
            for place in places_of_arms[arm]:
                for theirs in places_of_arms[other]:
                    movers = told_mover(contents, arm, place), told_mover(contents, other, theirs)
                    matters[("arms", arm, place, other, theirs)] = Matter("arms", *movers)
    return matters


def seen(thing):
    """Return all values of a thing as a string, but those that the judge does not see."""
    if isinstance(thing, (list, tuple)):
        return "(" + " ".join(seen(member) for member in thing) + ")"
    if hasattr(thing, "__dict__"):
        unseen = ("speed", "accel", "brake", "beside")
        fields = {name: value for name, value in vars(thing).items() if name not in unseen}
        return type(thing).__name__ + seen([[name, fields[name]] for name in sorted(fields)])
    return repr(thing)


def told_key(matter):
    return seen(matter) + (seen(matter.mover.arm.beside) if matter.kind == "self" else "")


def told_number(matters, depth, before, depth_before):
    """Return how many matters an edit judges, where the matters and the depth before are known."""
    asked = {told_key(matter) for matter in before} if depth == depth_before else set()
    return len({told_key(matter) for matter in matters} - asked)


class Finder:
    """The finder's verdicts, each found once."""

    def __init__(self):
        self.known = {}

    def told(self, matter, depth):
        key = (told_key(matter), depth)
        if key not in self.known:
            self.known[key] = find_verdict(matter, depth).told()
        return self.known[key]
