"""Points [76] and [77]: what holds up the arms, and how things go wrong."""
import random
import unittest

from random_plans import all_states, random_plan, told_safe

from armwarrant.order.failure import how_it_fails, what_holds_up
from armwarrant.order.plan import Plan

WAIT = [("wait", "s", True)]
GO = [("move", "q")]


def rest(point, part=None):
    return ("rest", point, part)


def way(first, last, part=None):
    return ("move", first, last, part)


def hinders(*pairs):
    """Return blocked pairs: the first arm of each hinders the second one's way from p to q."""
    return [(other, way("p", "q"), arm, rest("p")) for arm, other in pairs]


class HoldsUpCase(unittest.TestCase):
    def check(self, plan, told, state=None):
        found = what_holds_up(plan, plan.first_state() if state is None else state)
        self.assertEqual(found, told)
        if told is not None:
            self.assertIs(type(found), tuple)


class TestNotStuck(HoldsUpCase):
    def test_all_have_ended(self):
        self.check(Plan([[]], ["p"]), None)
        self.check(Plan([GO, []], ["p", "p"]), None, (((1, "q", None), (0, "p", None)), ()))

    def test_some_arm_can_step(self):
        self.check(Plan([GO], ["p"]), None)
        self.check(Plan([WAIT, GO], ["p", "p"]), None)
        # It can step, although all cannot come to their ends any more.
        self.check(Plan([WAIT, [("if", "i", 1)]], ["p", "p"]), None)
        self.check(Plan([GO, GO, [("set", "t", True)]], ["p"] * 3, blocked=hinders((0, 1), (1, 0))), None)


class TestSignals(HoldsUpCase):
    def test_the_first_arm_waits(self):
        self.check(Plan([WAIT], ["p"]), ("signal", 0, "s", True))
        self.check(Plan([[], [("wait", "t", False)], WAIT], ["p"] * 3), ("signal", 1, "t", False),
                   (((0, "p", None),) * 3, ("t",)))
        self.check(Plan([WAIT, GO], ["p"] * 2, blocked=hinders((0, 1))), ("signal", 0, "s", True))

    def test_an_arm_in_the_way_waits(self):
        self.check(Plan([GO, WAIT], ["p"] * 2, blocked=hinders((1, 0))), ("signal", 1, "s", True))
        plan = Plan([GO, WAIT, GO, WAIT], ["p"] * 4, blocked=hinders((2, 0), (3, 2)))
        self.check(plan, ("signal", 3, "s", True))

    def test_the_first_of_several_that_hinder(self):
        flows = [GO, WAIT, [("wait", "t", True)]]
        self.check(Plan(flows, ["p"] * 3, blocked=hinders((2, 0), (1, 0))), ("signal", 1, "s", True))
        self.check(Plan(flows, ["p"] * 3, blocked=hinders((2, 0))), ("signal", 2, "t", True))

    def test_an_index_behind_jumps(self):
        plan = Plan([[("set", "t", True), ("jump", 3), ("move", "q"), ("wait", "s", True)]], ["p"])
        self.check(plan, ("signal", 0, "s", True), (((3, "p", None),), ("t",)))


class TestEnded(HoldsUpCase):
    def test_an_arm_that_has_ended(self):
        self.check(Plan([GO, []], ["p"] * 2, blocked=hinders((1, 0))), ("ended", 0, 1))
        self.check(Plan([[], GO], ["p"] * 2, blocked=hinders((0, 1))), ("ended", 1, 0))
        self.check(Plan([GO, GO, GO, []], ["p"] * 4, blocked=hinders((2, 0), (1, 2), (3, 1))), ("ended", 1, 3))
        self.check(Plan([GO, [], WAIT], ["p"] * 3, blocked=hinders((1, 0), (2, 0))), ("ended", 0, 1))

    def test_a_hold(self):
        blocked = [(0, rest("p", "x"), 1, rest("p"))]
        self.check(Plan([[("hold", "x")], []], ["p"] * 2, blocked=blocked), ("ended", 0, 1))


class TestRings(HoldsUpCase):
    def test_all_in_a_ring(self):
        self.check(Plan([GO, GO], ["p"] * 2, blocked=hinders((1, 0), (0, 1))), ("ring", [0, 1]))
        self.check(Plan([GO] * 3, ["p"] * 3, blocked=hinders((2, 0), (1, 2), (0, 1))), ("ring", [0, 2, 1]))
        self.check(Plan([GO] * 4, ["p"] * 4, blocked=hinders((3, 0), (1, 3), (2, 1), (0, 2))), ("ring", [0, 3, 1, 2]))

    def test_a_ring_without_the_first_arm(self):
        self.check(Plan([GO] * 3, ["p"] * 3, blocked=hinders((2, 0), (1, 2), (2, 1))), ("ring", [2, 1]))
        self.check(Plan([GO] * 4, ["p"] * 4, blocked=hinders((3, 0), (1, 3), (2, 1), (3, 2))), ("ring", [3, 1, 2]))
        self.check(Plan([[], GO, GO], ["p"] * 3, blocked=hinders((2, 1), (1, 2))), ("ring", [1, 2]))

    def test_arms_beside_the_ring(self):
        flows = [GO, GO, WAIT]
        self.check(Plan(flows, ["p"] * 3, blocked=hinders((1, 0), (0, 1), (2, 1))), ("ring", [0, 1]))
        self.check(Plan(flows, ["p"] * 3, blocked=hinders((1, 0), (2, 1))), ("signal", 2, "s", True))


class TestHowItFails(unittest.TestCase):
    def check(self, plan, steps, end, state=None):
        found = how_it_fails(plan, plan.first_state() if state is None else state)
        self.assertEqual(found, (steps, end))
        self.assertIs(type(found), tuple)
        self.assertIs(type(found[0]), list)
        for (_, read), (_, told) in zip(found[0], steps):
            self.assertIs(read, told)

    def test_a_safe_state(self):
        plan = Plan([GO, WAIT], ["p"] * 2)
        end = (((1, "q", None), (1, "p", None)), ("s",))
        self.check(plan, [], end, end)
        begin = (((0, "p", None), (0, "p", None)), ("t", "s"))
        self.check(plan, [], begin, begin)

    def test_a_stuck_state(self):
        plan = Plan([WAIT], ["p"])
        self.check(plan, [], plan.first_state())

    def test_the_first_arm_that_can_step(self):
        plan = Plan([[("wait", "t", True)], [("set", "t", True)] + WAIT, GO * 2], ["p"] * 3)
        self.check(plan, [(1, None), (0, None), (2, None), (2, None)],
                   (((1, "p", None), (1, "p", None), (2, "q", None)), ("t",)))

    def test_each_step_without_an_if(self):
        flow = [("move", "q"), ("hold", "x"), ("set", "t", True), ("wait", "t", True), ("hold", None)]
        flow.append(("set", "u", True))
        self.check(Plan([flow + WAIT], ["p"]), [(0, None)] * 6, (((6, "q", None),), ("t", "u")))

    def test_the_input_is_off_if_on_is_safe(self):
        plan = Plan([[("if", "i", 3), ("move", "q"), ("jump", 4)] + WAIT], ["p"])
        self.check(plan, [(0, False)], (((3, "p", None),), ()))

    def test_the_input_is_on_otherwise(self):
        # Off is safe.
        self.check(Plan([[("if", "i", 2)] + WAIT], ["p"]), [(0, True)], (((1, "p", None),), ()))
        # Neither is safe.
        plan = Plan([[("if", "i", 3), ("move", "q"), ("jump", 3)] + WAIT], ["p"])
        self.check(plan, [(0, True), (0, None)], (((3, "q", None),), ()))

    def test_several_ifs(self):
        flow = [("if", "i", 2), ("move", "q"), ("if", "j", 4), ("jump", 5), ("wait", "s", True), ("move", "r")]
        plan = Plan([flow], ["p"])
        self.check(plan, [(0, True), (0, None), (0, False)], (((4, "q", None),), ()))

    def test_it_begins_in_the_state(self):
        plan = Plan([GO + WAIT], ["p"])
        self.check(plan, [], (((1, "a", "x"),), ("u", "t")), (((1, "a", "x"),), ("u", "t")))
        self.check(plan, [(0, None)], (((1, "q", "x"),), ("u", "t")), (((0, "a", "x"),), ("u", "t")))

    def test_thousands_of_steps(self):
        plan = Plan([[("set", "t", True)] * 9998 + WAIT], ["p"])
        steps, end = how_it_fails(plan, plan.first_state())
        self.assertEqual((steps, end), ([(0, None)] * 9998, (((9998, "p", None),), ("t",))))

    def test_random_plans(self):
        chance = random.Random(77)
        failed = {"signal": 0, "ended": 0, "ring": 0}
        for _ in range(250):
            plan = random_plan(chance, chance.choice((2, 3)), 4, chance.choice((0.1, 0.2, 0.35)))
            known = {}
            states = all_states(plan)
            for state in chance.sample(states, min(4, len(states))):
                steps, end = how_it_fails(plan, state)
                if told_safe(plan, state, known):
                    self.assertEqual((steps, end), ([], state))
                    continue
                self.check_way(plan, state, steps, end, known)
                failed[what_holds_up(plan, end)[0]] += 1
        self.assertGreater(min(failed.values()), 10, failed)

    def check_way(self, plan, state, steps, end, known):
        """Check each step from a state that is not safe, and that the end is stuck."""
        for arm, read in steps:
            self.assertEqual(arm, [arm for arm in range(len(plan.flows)) if plan.can_step(state, arm)][0])
            outcomes = plan.outcomes(state, arm)
            if plan.step_of(state, arm)[0] == "if":
                self.assertIs(read, not told_safe(plan, outcomes[0], known))
            else:
                self.assertIsNone(read)
            state = outcomes[1 if read is False else 0]
            self.assertFalse(told_safe(plan, state, known))
        self.assertEqual(state, end)
        self.assertFalse(plan.all_ended(end))
        self.assertFalse(any(plan.can_step(end, arm) for arm in range(len(plan.flows))))
        self.check_held_up(plan, end)

    def check_held_up(self, plan, state):
        word, *told = what_holds_up(plan, state)
        if word == "signal":
            self.assertEqual(plan.step_of(state, told[0]), ("wait", *told[1:]))
        elif word == "ended":
            self.assertTrue(plan.has_ended(state, told[1]))
            self.assertEqual(plan.hindered_by(state, told[0]), told[1])
        else:
            (arms,) = told
            self.assertEqual(len(set(arms)), len(arms))
            for arm, other in zip(arms, arms[1:] + arms[:1]):
                self.assertEqual(plan.hindered_by(state, arm), other)


if __name__ == "__main__":
    unittest.main()
