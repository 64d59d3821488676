"""Points [73] and [74]: safe states."""
import random
import time
import unittest

from random_plans import all_states, random_plan, told_safe

from armwarrant.order.plan import Plan
from armwarrant.order.safety import is_safe, safe_arm


def rest(point, part=None):
    return ("rest", point, part)


def way(first, last, part=None):
    return ("move", first, last, part)


def moves(*points):
    return [("move", point) for point in points]


class SafetyCase(unittest.TestCase):
    def check(self, plan, safe, arm, state=None):
        """Check the state, and what told it so word by word."""
        state = plan.first_state() if state is None else state
        self.assertIs(is_safe(plan, state), safe)
        self.assertEqual(safe_arm(plan, state), arm)
        self.assertIs(told_safe(plan, state, {}), safe)


class TestSafe(SafetyCase):
    def test_all_have_ended(self):
        self.check(Plan([[]], ["p"]), True, None)
        self.check(Plan([[], []], ["p", "p"], blocked=[(0, rest("p"), 1, rest("p"))]), True, None)
        plan = Plan([moves("q")], ["p"])
        self.check(plan, True, None, (((1, "q", None),), ("s",)))

    def test_one_arm(self):
        self.check(Plan([moves("q", "r") + [("hold", "x"), ("if", "i", 4), ("set", "s", True)]], ["p"]), True, 0)
        self.check(Plan([[("wait", "s", False)]], ["p"]), True, 0)

    def test_a_wait_that_nobody_meets(self):
        self.check(Plan([[("wait", "s", True)]], ["p"]), False, None)
        self.check(Plan([[("wait", "s", True)], moves("q")], ["p", "p"]), False, None)
        # The other arm meets it, but then takes it back.
        flows = [[("wait", "s", True)], [("set", "s", True)]]
        self.check(Plan(flows, ["p", "p"]), True, 1)
        flows[1].append(("wait", "t", True))
        self.check(Plan(flows, ["p", "p"]), False, None)
        flows = [[("wait", "s", True), ("set", "t", True)], [("set", "s", True), ("wait", "t", True)]]
        self.check(Plan(flows, ["p", "p"]), True, 1)

    def test_a_signal_that_must_not_be_switched_too_early(self):
        flows = [[("set", "s", True)], [("wait", "s", False)]]
        self.check(Plan(flows, ["p", "p"]), True, 1)
        self.check(Plan(flows, ["p", "p"]), True, 1, (((0, "p", None), (0, "p", None)), ("t",)))
        self.check(Plan(flows, ["p", "p"]), False, None, (((1, "p", None), (0, "p", None)), ("s",)))

    def test_arms_that_hinder_each_other_in_a_ring(self):
        for many in (2, 3, 4):
            ring = [
                (arm, way("p", "q"), (arm + 1) % many, rest("p")) for arm in range(many)
            ]
            plan = Plan([moves("q")] * many, ["p"] * many, blocked=ring)
            self.check(plan, False, None)
            # One of them not in the way, and they go one after another.
            for free in range(many):
                plan = Plan([moves("q")] * many, ["p"] * many, blocked=ring[:free] + ring[free + 1:])
                self.check(plan, True, free)

    def test_an_arm_that_has_ended_and_stands_in_the_way(self):
        blocked = [(0, way("p", "q"), 1, rest("b"))]
        self.check(Plan([moves("q"), []], ["p", "b"], blocked=blocked), False, None)
        self.check(Plan([moves("q"), moves("c")], ["p", "b"], blocked=blocked), True, 1)
        # The first arm must not be the last one to go, since the second one ends in its way.
        self.check(Plan([moves("q"), moves("b")], ["p", "a"], blocked=blocked), True, 0)

    def test_the_first_arm_that_can_step_is_not_the_one_to_step(self):
        blocked = [(1, way("a", "b"), 0, rest("q"))]
        self.check(Plan([moves("q"), moves("b")], ["p", "a"], blocked=blocked), True, 1)
        blocked = [(2, way("a", "b"), 0, rest("q")), (2, way("a", "b"), 1, rest("q"))]
        self.check(Plan([moves("q"), moves("q"), moves("b")], ["p", "p", "a"], blocked=blocked), True, 2)

    def test_an_if_of_which_one_outcome_alone_is_safe(self):
        for flow in (
            [("if", "i", 2), ("wait", "s", True)], [("if", "i", 3), ("move", "p"), ("jump", 4), ("wait", "s", True)],
        ):
            self.check(Plan([flow], ["p"]), False, None)
        flow = [("if", "i", 3), ("wait", "s", False), ("jump", 4), ("wait", "s", True)]
        plan = Plan([flow, [("set", "s", True)]], ["p", "p"])
        self.check(plan, True, 0)
        self.check(plan, False, None, (((0, "p", None), (1, "p", None)), ("s",)))
        flow = [("if", "i", 2), ("wait", "s", True)]
        self.check(Plan([flow, [("set", "s", True)]], ["p", "p"]), True, 0)

    def test_an_if_that_must_wait(self):
        # The first arm may read only when the second one is out of the way.
        flows = [[("if", "i", 2), ("move", "q")], moves("b", "c")]
        blocked = [(0, way("p", "q"), 1, rest("b")), (1, way("b", "c"), 0, rest("p"))]
        plan = Plan(flows, ["p", "a"], blocked=blocked)
        self.check(plan, False, None)
        self.check(Plan(flows, ["p", "a"], blocked=blocked[:1]), True, 0)

    def test_a_part_that_is_held(self):
        flows = [[("hold", "x"), ("move", "q")], moves("b")]
        blocked = [(0, way("p", "q", "x"), 1, rest("b"))]
        self.check(Plan(flows, ["p", "a"], blocked=blocked), True, 0)
        self.check(Plan(flows, ["p", "b"], blocked=blocked + [(1, way("b", "b"), 0, rest("p", "x"))]), False, None)
        self.check(Plan(flows, ["p", "b"], blocked=[(0, way("p", "q"), 1, rest("b"))]), True, 0)

    def test_the_order_of_the_signals_does_not_count(self):
        plan = Plan([[("wait", "s", True), ("wait", "t", True)], []], ["p", "p"])
        for signals in (("s", "t"), ("t", "s"), ("t", "u", "s")):
            self.check(plan, True, 0, (((0, "p", None), (0, "p", None)), signals))

    def test_nothing_is_changed(self):
        plan = Plan([moves("q"), moves("b")], ["p", "a"], blocked=[(1, way("a", "b"), 0, rest("q"))])
        state = plan.first_state()
        is_safe(plan, state)
        safe_arm(plan, state)
        self.assertEqual((plan.flows, plan.starts), ([moves("q"), moves("b")], ["p", "a"]))
        self.assertEqual(state, plan.first_state())


class TestRandomPlans(unittest.TestCase):
    def test_as_it_is_told(self):
        chance = random.Random(73)
        told = {True: 0, False: 0}
        for _ in range(150):
            plan = random_plan(chance, chance.choice((1, 2, 2, 3)), 4, chance.choice((0.05, 0.15, 0.3)))
            known = {}
            states = all_states(plan)
            for state in chance.sample(states, min(12, len(states))):
                safe = told_safe(plan, state, known)
                told[safe] += 1
                self.assertIs(is_safe(plan, state), safe)
                arms = [
                    arm for arm in range(len(plan.flows)) if plan.can_step(state, arm)
                    and all(told_safe(plan, after, known) for after in plan.outcomes(state, arm))
                ]
                self.assertEqual(safe_arm(plan, state), arms[0] if arms else None)
        self.assertGreater(min(told.values()), 100)

    def test_from_a_safe_state_all_come_to_their_ends(self):
        chance = random.Random(74)
        runs = 0
        while runs < 60:
            plan = random_plan(chance, chance.choice((2, 3)), 5, 0.12)
            state = plan.first_state()
            if not is_safe(plan, state):
                continue
            runs += 1
            while not plan.all_ended(state):
                arm = safe_arm(plan, state)
                after = chance.choice(plan.outcomes(state, arm))
                self.assertTrue(plan.can_step(state, arm))
                self.assertLess(plan.steps_left(after), plan.steps_left(state))
                state = after
            self.assertIsNone(safe_arm(plan, state))
            self.assertEqual(plan.steps_left(state), 0)


class TestWidePlans(unittest.TestCase):
    def check_fast(self, plan, safe):
        self.assertLessEqual(plan.width, 20000)
        self.assertGreater(plan.width, 10000)
        begin = time.perf_counter()
        self.assertIs(is_safe(plan, plan.first_state()), safe)
        safe_arm(plan, plan.first_state())
        self.assertLess(time.perf_counter() - begin, 10)

    def test_four_arms_that_only_read(self):
        reads = [("if", "i", at + 1) for at in range(10)]
        self.check_fast(Plan([reads] * 4, ["p"] * 4), True)
        self.check_fast(Plan([reads] * 3 + [reads[:9] + [("wait", "s", True)]], ["p"] * 4), False)

    def test_a_long_flow(self):
        self.check_fast(Plan([[("set", "s", True)] * 9999], ["p"]), True)
        self.check_fast(Plan([[("set", "s", True)] * 9998 + [("wait", "t", True)]], ["p"]), False)

    def test_many_orders_of_signals(self):
        # Each signal is switched on anew or not, so each order of them can come.
        for tail, safe in ((("wait", "a", True), False), (("wait", "z", False), True)):
            flow = []
            for at in range(22):
                name = "abcdefgh"[at % 8]
                flow += [("if", "i", len(flow) + 3), ("set", name, False), ("set", name, True)]
            plan = Plan([flow + [tail]], ["p"])
            self.check_fast(plan, safe)

    def test_points_and_parts(self):
        flow = []
        for k in range(4):
            flow += [("if", "i", len(flow) + 2), ("move", f"p{k % 2}"), ("if", "i", len(flow) + 4), ("hold", "x")]
        wait = [("wait", "s", True)]
        self.check_fast(Plan([flow, flow + wait], ["p", "p"]), False)
        self.check_fast(Plan([flow, flow + [("wait", "s", False)]], ["p", "p"]), True)


if __name__ == "__main__":
    unittest.main()
