"""What holds up the arms in a stuck state, and how things go wrong from a state that is not safe."""
from armwarrant.order.safety import Safety


def what_holds_up(plan, state):
    """Return None if the state is not stuck, otherwise what holds it up."""
    if plan.all_ended(state) or _first_to_step(plan, state) is not None:
        return None
    arm = 0
    while plan.has_ended(state, arm):
        arm += 1
    come = []
    while arm not in come:
        if plan.has_ended(state, arm):
            return ("ended", come[-1], arm)
        step = plan.step_of(state, arm)
        if step[0] == "wait":
            return ("signal", arm, step[1], step[2])
        come.append(arm)
        # Whoever cannot step and does not wait is hindered.
        arm = plan.hindered_by(state, arm)
    return ("ring", come[come.index(arm):])


def how_it_fails(plan, state):
    """Return the steps, each with what is read, by which things go wrong, and the state in which they end."""
    safety = Safety(plan)
    steps = []
    if safety.is_safe(state):
        return (steps, state)
    arm = _first_to_step(plan, state)
    while arm is not None:
        outcomes = plan.outcomes(state, arm)
        read = None
        if plan.step_of(state, arm)[0] == "if":
            read = not safety.is_safe(outcomes[0])
        state = outcomes[1] if read is False else outcomes[0]
        steps.append((arm, read))
        arm = _first_to_step(plan, state)
    return (steps, state)


def _first_to_step(plan, state):
    """Return the first arm that can step, or None."""
    for arm in range(len(plan.flows)):
        if plan.can_step(state, arm):
            return arm
    return None
