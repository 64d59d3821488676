"""Plans: the states of several arms that go through their flows, and what leads from one to another.

A state is a pair: for each arm its index in its flow, its point and the part that it holds; and the signals
that are on, in the order in which they were last switched on.
"""
from armwarrant.programs.flows import landing, parts_of, points_of, signals_of


class Plan:
    """Flows with their starting points, and the places of two arms that are blocked."""

    def __init__(self, flows, starts, *, blocked=()):
        self.flows = [list(flow) for flow in flows]
        self.starts = list(starts)
        self.blocked = {pair: True for pair in blocked}

    def is_clear(self, arm, place, other, other_place):
        """Return True if places of two arms are clear of each other."""
        if (arm, place, other, other_place) in self.blocked:
            return False
        return (other, other_place, arm, place) not in self.blocked

    def first_state(self):
        """Return the state in which nothing is done."""
        arms = [(landing(flow, 0), start, None) for flow, start in zip(self.flows, self.starts)]
        return (tuple(arms), ())

    def step_of(self, state, arm):
        """Return the step at which the arm is, or None if it has ended."""
        at = state[0][arm][0]
        return self.flows[arm][at] if at < len(self.flows[arm]) else None

    def has_ended(self, state, arm):
        """Return True if the arm is at the end of its flow."""
        return self.step_of(state, arm) is None

    def all_ended(self, state):
        """Return True if all arms are at the ends of their flows."""
        return all([self.has_ended(state, arm) for arm in range(len(self.flows))])

    def rest_of(self, state, arm):
        """Return the place of the arm where it rests."""
        _, point, held = state[0][arm]
        return ("rest", point, held)

    def wanted(self, state, arm):
        """Return the place to which the arm's step needs to go, or None."""
        step = self.step_of(state, arm)
        _, point, held = state[0][arm]
        if step is not None and step[0] == "move":
            return ("move", point, step[1], held)
        if step is not None and step[0] == "hold":
            return ("rest", point, step[1])
        return None

    def hindered_by(self, state, arm):
        """Return the first other arm that rests in the way of the arm, or None."""
        place = self.wanted(state, arm)
        if place is None:
            return None
        for other in range(len(self.flows)):
            if other != arm and not self.is_clear(arm, place, other, self.rest_of(state, other)):
                return other
        return None

    def can_step(self, state, arm):
        """Return True if the arm can do its step now."""
        step = self.step_of(state, arm)
        if step is None:
            return False
        if step[0] == "wait":
            return (step[1] in state[1]) == step[2]
        return self.hindered_by(state, arm) is None

    def outcomes(self, state, arm):
        """Return the states to which the arm's step leads; the one for on is first at an if."""
        step = self.step_of(state, arm)
        if step is None:
            return []
        at, point, held = state[0][arm]
        signals = state[1]
        indexes = [at + 1]
        if step[0] == "if":
            indexes.append(step[2])
        elif step[0] == "move":
            point = step[1]
        elif step[0] == "hold":
            held = step[1]
        elif step[0] == "set":
            signals = _switched(signals, step[1], step[2])
        found = [(landing(self.flows[arm], index), point, held) for index in indexes]
        return [(_with_arm(state[0], arm, entry), signals) for entry in found]

    def steps_left(self, state):
        """Return how many steps are left at most until all arms have ended."""
        return sum([len(flow) - entry[0] for flow, entry in zip(self.flows, state[0])])

    @property
    def width(self):
        """A bound of the number of states, where the order of the signals does not count."""
        found = 1
        signals = {}
        for flow in self.flows:
            found = found * (len(flow) + 1) * (len(points_of(flow)) + 1) * (len(parts_of(flow)) + 1)
            for signal in signals_of(flow):
                signals[signal] = True
        return found << len(signals)


def _with_arm(entries, arm, entry):
    """Return the entries of the arms, of which the one of an arm is another one."""
    return entries[:arm] + (entry,) + entries[arm + 1:]


def _switched(signals, signal, on):
    """Return the signals that are on after one of them is switched."""
    if not on:
        return tuple([other for other in signals if other != signal])
    return signals if signal in signals else signals + (signal,)
