"""The controller of a plan: it is told what happens, and tells what may be done."""
from armwarrant.errors import NotNow, NotSafe, UnknownArm
from armwarrant.order.plan import Plan
from armwarrant.order.safety import Safety


class Runner:
    """A plan that runs.

    The state is the one in which each arm that is under way still is where its move began.
    """

    def __init__(self, plan):
        self.plan = plan
        # A copy, so that the runner goes on by what the plan tells now.
        self.safety = Safety(Plan(plan.flows, plan.starts, blocked=list(plan.blocked)))
        self.state = plan.first_state()
        if not self.safety.is_safe(self.state):
            raise NotSafe("not all arms can surely come to their ends")
        self.under_way = [False for _ in plan.flows]
        self.halted = [False for _ in plan.flows]
        self.events = 0

    def may(self, arm):
        """Return the word that tells what may be done with the arm, and the arm that is in its way."""
        self._check_arm(arm)
        plan = self.safety.plan
        if self.under_way[arm]:
            return ("under way", None)
        step = plan.step_of(self.state, arm)
        if step is None:
            return ("ended", None)
        if self.halted[arm] and step[0] == "move":
            return ("halted", None)
        other = self._in_the_way(arm)
        if other is not None:
            return ("in the way", other)
        if step[0] == "wait" and not plan.can_step(self.state, arm):
            return ("signal", None)
        if not self.safety.is_safe_step(self.state_ahead(), arm):
            return ("held back", None)
        if step[0] == "move":
            return ("begin", None)
        return ("read" if step[0] == "if" else "go on", None)

    def begin(self, arm):
        """The arm begins its move."""
        self._check_may(arm, "begin")
        self.under_way[arm] = True
        self.events += 1

    def end(self, arm):
        """The arm comes to the end of its move."""
        self._check_arm(arm)
        if not self.under_way[arm] or self.halted[arm]:
            raise NotNow("the arm is not under way, or it is halted")
        self.under_way[arm] = False
        self._step(arm, 0)

    def go_on(self, arm):
        """The arm does its step, which is a set, a wait or a hold."""
        self._check_may(arm, "go on")
        self._step(arm, 0)

    def read_input(self, arm, *, on):
        """The arm reads its input."""
        self._check_may(arm, "read")
        self._step(arm, 0 if on else 1)

    def halt(self, arm):
        """The arm is halted."""
        self._check_arm(arm)
        if self.halted[arm]:
            raise NotNow("the arm is halted already")
        self.halted[arm] = True

    def free(self, arm):
        """The arm is not halted any more."""
        self._check_arm(arm)
        if not self.halted[arm]:
            raise NotNow("the arm is not halted")
        self.halted[arm] = False

    def place_of(self, arm):
        """Return the place that the arm is on."""
        self._check_arm(arm)
        return self._place_of(arm)

    def is_halted(self, arm):
        """Return True if the arm is halted."""
        self._check_arm(arm)
        return self.halted[arm]

    def is_under_way(self, arm):
        """Return True if the arm is under way."""
        self._check_arm(arm)
        return self.under_way[arm]

    def state_ahead(self):
        """Return the state in which every arm that is under way has come to the end of its move."""
        ahead = self.state
        for arm, is_going in enumerate(self.under_way):
            if is_going:
                ahead = self.safety.plan.outcomes(ahead, arm)[0]
        return ahead

    @property
    def is_over(self):
        """True if all arms have ended."""
        return self.safety.plan.all_ended(self.state)

    def fork(self):
        """Return a new runner in the same state."""
        # A plan without steps is found safe at once; all that the new runner keeps is set behind it.
        other = Runner(Plan([[]], [""]))
        other.plan = self.plan
        other.safety = self.safety
        other.state = self.state
        other.under_way = list(self.under_way)
        other.halted = list(self.halted)
        other.events = self.events
        return other

    def _check_arm(self, arm):
        if not 0 <= arm < len(self.under_way):
            raise UnknownArm("no arm has this number")

    def _check_may(self, arm, word):
        """Raise NotNow if another word is told of the arm."""
        told, _ = self.may(arm)
        if told != word:
            raise NotNow(told)

    def _step(self, arm, outcome):
        """Let the arm have done its step, with one of its outcomes."""
        self.state = self.safety.plan.outcomes(self.state, arm)[outcome]
        self.events += 1

    def _place_of(self, arm):
        if self.under_way[arm]:
            return self.safety.plan.wanted(self.state, arm)
        return self.safety.plan.rest_of(self.state, arm)

    def _in_the_way(self, arm):
        """Return the first other arm that is on a place in the way of the arm, or None."""
        plan = self.safety.plan
        place = plan.wanted(self.state, arm)
        if place is None:
            return None
        for other in range(len(plan.flows)):
            if other != arm and not plan.is_clear(arm, place, other, self._place_of(other)):
                return other
        return None
