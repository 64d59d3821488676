"""Safe states: those from which all arms can come to their ends, whatever is read."""


class Safety:
    """A plan with what is known of its states.

    Whether a state is safe does not depend on the order of its signals, so there they are sorted.
    """

    def __init__(self, plan):
        self.plan = plan
        self.known = {}
        self.steps = {}

    def is_safe(self, state):
        """Return True if the state is safe."""
        first = _sorted_state(state)
        # States that wait for the one behind them; a list, since they may be thousands deep.
        waiting = [first]
        while len(waiting) > 0:
            needed = self._settle(waiting[-1])
            if needed is None:
                waiting.pop()
            else:
                waiting.append(needed)
        return self.known[first]

    def is_safe_step(self, state, arm):
        """Return True if the arm's step leads to safe states alone."""
        return all([self.is_safe(after) for after in self.plan.outcomes(state, arm)])

    def _settle(self, state):
        """Find out whether a state is safe, or return a state of which this must be found out before."""
        if state in self.known:
            return None
        if state not in self.steps:
            self.steps[state] = self._steps_from(state)
        for outcomes in self.steps[state]:
            found = [self.known.get(after) for after in outcomes]
            if False not in found:
                if None in found:
                    return outcomes[found.index(None)]
                self.known[state] = True
                return None
        self.known[state] = self.plan.all_ended(state)
        return None

    def _steps_from(self, state):
        """Return for each arm that can step the states to which its step leads."""
        plan = self.plan
        arms = [arm for arm in range(len(plan.flows)) if plan.can_step(state, arm)]
        return [[_sorted_state(after) for after in plan.outcomes(state, arm)] for arm in arms]


def is_safe(plan, state):
    """Return True if the state is safe."""
    return Safety(plan).is_safe(state)


def safe_arm(plan, state):
    """Return the first arm that can step and whose step leads to safe states alone, or None."""
    safety = Safety(plan)
    for arm in range(len(plan.flows)):
        if plan.can_step(state, arm) and safety.is_safe_step(state, arm):
            return arm
    return None


def _sorted_state(state):
    return (state[0], tuple(sorted(state[1])))
