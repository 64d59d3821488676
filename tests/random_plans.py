"""Random plans, and safe states told word by word as point [73] does, for the tests."""
from armwarrant.order.plan import Plan

POINTS = ("p", "q", "r")
PARTS = (None, "x")
WORDS = ("move", "move", "move", "hold", "set", "wait", "if")


def random_flow(chance, many):
    flow = []
    for at in range(many):
        word = chance.choice(WORDS)
        if word == "move":
            flow.append((word, chance.choice(POINTS)))
        elif word == "hold":
            flow.append((word, chance.choice(PARTS)))
        elif word in ("set", "wait"):
            flow.append((word, chance.choice("st"), chance.random() < 0.7))
        else:
            flow.append((word, "i", chance.randint(at + 1, many)))
        if chance.random() < 0.1 and at + 1 < many:
            flow[-1] = ("jump", chance.randint(at + 1, many))
    return flow


def all_rests():
    return [("rest", point, part) for point in POINTS for part in PARTS]


def all_ways():
    return [("move", first, last, part) for first in POINTS for last in POINTS for part in PARTS]


def random_plan(chance, arms, steps, share):
    """Return a plan in which a place that is clear of a way is clear of the rest at its end.

    Its arms begin at places that are clear of each other.
    """
    starts = [chance.choice(POINTS) for _ in range(arms)]
    begin = [("rest", start, None) for start in starts]
    blocked = {}
    for arm in range(arms):
        for other in range(arm + 1, arms):
            for mine in all_rests():
                for theirs in all_rests():
                    if chance.random() < share and (mine, theirs) != (begin[arm], begin[other]):
                        blocked[(arm, mine, other, theirs)] = True
            for mine in all_rests() + all_ways():
                for theirs in all_rests() + all_ways():
                    ends = (arm, end_of(mine), other, end_of(theirs))
                    halfway = [(arm, mine, other, end_of(theirs)), (arm, end_of(mine), other, theirs)]
                    if ends in blocked or any(pair in blocked for pair in halfway):
                        blocked[(arm, mine, other, theirs)] = True
                    elif "move" in (mine[0], theirs[0]) and chance.random() < share / 2:
                        blocked[(arm, mine, other, theirs)] = True
    pairs = [pair if chance.random() < 0.5 else pair[2:] + pair[:2] for pair in blocked]
    flows = [random_flow(chance, chance.randint(0, steps)) for _ in range(arms)]
    return Plan(flows, starts, blocked=pairs)


def end_of(place):
    return ("rest",) + place[-2:]


def told_safe(plan, state, known):
    """Return True if the state is safe; what is known is kept in a dict."""
    if state not in known:
        known[state] = plan.all_ended(state) or any(
            plan.can_step(state, arm) and all(told_safe(plan, after, known) for after in plan.outcomes(state, arm))
            for arm in range(len(plan.flows))
        )
    return known[state]


def all_states(plan, first=None):
    """Return all states to which the steps of the plan lead."""
    found = {}
    ahead = [plan.first_state() if first is None else first]
    while ahead:
        state = ahead.pop()
        if state not in found:
            found[state] = True
            for arm in range(len(plan.flows)):
                if plan.can_step(state, arm):
                    ahead.extend(plan.outcomes(state, arm))
    return list(found)
