"""Points [67] to [72], [74] and [75]: plans, their states, and what leads from one to another."""
import random
import unittest

from random_plans import all_states, random_plan

from armwarrant.order.plan import Plan

MOVES = [("move", "q"), ("move", "r")]
EVERY = [
    ("move", "q"), ("hold", "x"), ("set", "s", True), ("set", "s", False), ("wait", "s", True), ("wait", "s", False),
    ("if", "i", 8), ("jump", 9), ("move", "r"), ("hold", None),
]


def rest(point, part=None):
    return ("rest", point, part)


def way(first, last, part=None):
    return ("move", first, last, part)


class TestBlocked(unittest.TestCase):
    def test_places_that_are_blocked_in_either_order(self):
        pairs = [(0, rest("p"), 1, rest("q", "x")), (2, way("p", "q"), 0, way("q", "q", "x"))]
        for blocked in (pairs, tuple(pairs)):
            plan = Plan([[], [], []], ["p", "p", "p"], blocked=blocked)
            for arm, place, other, other_place in pairs:
                self.assertIs(plan.is_clear(arm, place, other, other_place), False)
                self.assertIs(plan.is_clear(other, other_place, arm, place), False)
                # The places of the arms are not to be confused.
                self.assertIs(plan.is_clear(other, place, arm, other_place), True)
                self.assertIs(plan.is_clear(arm, other_place, other, place), True)

    def test_other_places_are_clear(self):
        plan = Plan([[], [], []], ["p", "p", "p"], blocked=[(0, rest("p"), 1, way("p", "q", "x"))])
        for arm, place, other, other_place in (
            (0, rest("p", "x"), 1, way("p", "q", "x")), (0, rest("p"), 1, way("p", "q")),
            (0, rest("p"), 1, way("q", "p", "x")), (0, rest("p"), 1, rest("q", "x")), (0, rest("p"), 1, rest("p", "x")),
            (0, rest("p"), 2, way("p", "q", "x")), (2, rest("p"), 1, way("p", "q", "x")), (1, rest("p"), 2, rest("p")),
        ):
            self.assertIs(plan.is_clear(arm, place, other, other_place), True)
            self.assertIs(plan.is_clear(other, other_place, arm, place), True)

    def test_nothing_is_blocked(self):
        for plan in (Plan([[], []], ["p", "p"]), Plan([[], []], ["p", "p"], blocked=())):
            self.assertTrue(plan.is_clear(0, rest("p"), 1, rest("p")))


class TestCopies(unittest.TestCase):
    def test_fields(self):
        plan = Plan([MOVES, []], ["p", "q"])
        self.assertEqual((plan.flows, plan.starts), ([MOVES, []], ["p", "q"]))
        self.assertIs(type(plan.starts), list)
        self.assertTrue(all(type(flow) is list for flow in plan.flows))

    def test_later_changes_of_the_arguments_have_no_effect(self):
        flows, starts, blocked = [list(MOVES), []], ["p", "q"], [(0, rest("q"), 1, rest("q"))]
        plan = Plan(flows, starts, blocked=blocked)
        flows[0].pop()
        flows.pop()
        starts[0] = "z"
        blocked.clear()
        self.assertEqual((plan.flows, plan.starts), ([MOVES, []], ["p", "q"]))
        self.assertFalse(plan.is_clear(0, rest("q"), 1, rest("q")))
        blocked.append((0, rest("p"), 1, rest("p")))
        self.assertTrue(plan.is_clear(0, rest("p"), 1, rest("p")))

    def test_the_arguments_stay_as_they_are(self):
        flows, starts, blocked = [list(MOVES), list(MOVES)], ["p", "q"], [(0, rest("q"), 1, rest("q"))]
        plan = Plan(flows, starts, blocked=blocked)
        plan.flows[0].clear()
        plan.flows.pop()
        plan.starts.clear()
        self.assertEqual((flows, starts), ([MOVES, MOVES], ["p", "q"]))
        self.assertEqual(blocked, [(0, rest("q"), 1, rest("q"))])

    def test_a_flow_that_is_passed_twice(self):
        same = list(MOVES)
        plan = Plan([same, same], ["p", "p"])
        plan.flows[0].clear()
        self.assertEqual(plan.flows, [[], MOVES])


class TestStates(unittest.TestCase):
    def test_the_first_state(self):
        self.assertEqual(Plan([MOVES], ["p"]).first_state(), (((0, "p", None),), ()))
        flows = [[], MOVES, [("jump", 2), ("move", "p"), ("jump", 3), ("move", "q")], [("jump", 1)]]
        self.assertEqual(
            Plan(flows, list("abcd")).first_state(),
            (((0, "a", None), (0, "b", None), (3, "c", None), (1, "d", None)), ()),
        )

    def test_step_and_end(self):
        plan = Plan([MOVES, [], MOVES], ["p", "p", "p"])
        state = (((1, "p", None), (0, "p", None), (2, "p", None)), ())
        self.assertEqual([plan.step_of(state, arm) for arm in range(3)], [("move", "r"), None, None])
        self.assertEqual([plan.has_ended(state, arm) for arm in range(3)], [False, True, True])
        self.assertIs(plan.all_ended(state), False)
        self.assertIs(plan.all_ended((((2, "p", None), (0, "p", "x"), (2, "p", None)), ("s",))), True)
        for arm in range(3):
            entries = [(2, "p", None), (0, "p", None), (2, "p", None)]
            entries[arm] = (0, "p", None)
            self.assertIs(plan.all_ended((tuple(entries), ())), arm == 1)

    def test_rest(self):
        plan = Plan([MOVES, MOVES], ["p", "p"])
        state = (((1, "a", None), (2, "b", "x")), ())
        self.assertEqual((plan.rest_of(state, 0), plan.rest_of(state, 1)), (rest("a"), rest("b", "x")))

    def test_wanted(self):
        plan = Plan([EVERY], ["p"])
        wanted = {0: way("a", "q", "y"), 1: rest("a", "x"), 8: way("a", "r", "y"), 9: rest("a")}
        for at in (0, 1, 2, 3, 4, 5, 6, 8, 9, 10):
            self.assertEqual(plan.wanted((((at, "a", "y"),), ("s",)), 0), wanted.get(at))
        self.assertEqual(plan.wanted((((0, "q", None),), ()), 0), way("q", "q"))


class TestHindered(unittest.TestCase):
    def setUp(self):
        self.flows = [[("move", "q"), ("hold", "x"), ("set", "s", True)], [], [("wait", "s", True)], MOVES]

    def plan(self, *blocked):
        return Plan(self.flows, ["p"] * 4, blocked=blocked)

    def state(self, at, held=None):
        return (((at, "p", held), (0, "b", None), (0, "c", "y"), (0, "d", None)), ())

    def check(self, plan, state, arm, other):
        self.assertEqual(plan.hindered_by(state, arm), other)
        self.assertIs(plan.can_step(state, arm), other is None)

    def test_a_move(self):
        self.check(self.plan(), self.state(0), 0, None)
        self.check(self.plan((0, way("p", "q"), 2, rest("c", "y"))), self.state(0), 0, 2)
        self.check(self.plan((2, rest("c", "y"), 0, way("p", "q"))), self.state(0), 0, 2)
        # An arm that has ended is in the way, too.
        self.check(self.plan((0, way("p", "q"), 1, rest("b"))), self.state(0), 0, 1)

    def test_the_first_of_several_is_told(self):
        plan = self.plan((0, way("p", "q"), 3, rest("d")), (2, rest("c", "y"), 0, way("p", "q")))
        self.check(plan, self.state(0), 0, 2)
        plan = self.plan((3, way("d", "q"), 2, rest("c", "y")), (3, way("d", "q"), 0, rest("p")))
        self.check(plan, self.state(0), 3, 0)

    def test_a_hold(self):
        self.check(self.plan((0, rest("p", "x"), 3, rest("d"))), self.state(1), 0, 3)
        self.check(self.plan((0, rest("p"), 3, rest("d"))), self.state(1), 0, None)

    def test_what_does_not_hinder(self):
        for pair in (
            (0, rest("p"), 3, rest("d")), (0, rest("q"), 3, rest("d")), (0, way("p", "q", "x"), 3, rest("d")),
            (0, way("p", "q"), 3, way("d", "q")), (0, way("p", "q"), 2, rest("c")), (1, way("p", "q"), 3, rest("d")),
        ):
            self.check(self.plan(pair), self.state(0), 0, None)

    def test_nothing_is_wanted(self):
        blocked = [(arm, rest(point), other, rest(last)) for arm in range(4) for other in range(4) if arm != other
                   for point in "pbcd" for last in "pbcd"]
        self.check(self.plan(*blocked), self.state(2), 0, None)
        self.assertIsNone(self.plan(*blocked).hindered_by(self.state(3), 0))
        self.assertIsNone(self.plan(*blocked).hindered_by(self.state(0), 1))
        self.assertIsNone(self.plan(*blocked).hindered_by(self.state(0), 2))


class TestSteps(unittest.TestCase):
    def check(self, step, before, can, after, signals=(), others=()):
        """Check the step of the second arm, at index 1 of a flow with jumps behind it."""
        flow = [("jump", 1), step, ("jump", 4), ("move", "z"), ("move", "z"), ("jump", 7), ("jump", 7)]
        plan = Plan([MOVES, flow, []], ["p", "p", "p"], blocked=others)
        state = (((1, "a", "y"), (1,) + before, (0, "c", None)), signals)
        self.assertIs(plan.can_step(state, 1), can)
        found = plan.outcomes(state, 1)
        self.assertIs(type(found), list)
        self.assertEqual(found, [
            (((1, "a", "y"), entry, (0, "c", None)), on) for entry, on in after
        ])

    def test_move(self):
        self.check(("move", "q"), ("p", "x"), True, [((4, "q", "x"), ())])
        self.check(("move", "p"), ("p", None), True, [((4, "p", None), ("s",))], ("s",))

    def test_hold(self):
        self.check(("hold", "x"), ("p", None), True, [((4, "p", "x"), ())])
        self.check(("hold", "x"), ("p", "y"), True, [((4, "p", "x"), ())])
        self.check(("hold", None), ("p", "y"), True, [((4, "p", None), ())])
        self.check(("hold", None), ("p", None), True, [((4, "p", None), ())])

    def test_outcomes_of_an_arm_that_cannot_step(self):
        blocked = [(0, rest("a", "y"), 1, way("p", "q", "x")), (1, rest("p", "x"), 2, rest("c"))]
        self.check(("move", "q"), ("p", "x"), False, [((4, "q", "x"), ())], others=blocked)
        self.check(("hold", "x"), ("p", None), False, [((4, "p", "x"), ())], others=blocked)
        self.check(("wait", "s", True), ("p", None), False, [((4, "p", None), ())])

    def test_set(self):
        for before, on, after in (
            ((), True, ("s",)), (("t",), True, ("t", "s")), (("s", "t"), True, ("s", "t")), (("s",), True, ("s",)),
            ((), False, ()), (("t",), False, ("t",)), (("s",), False, ()), (("t", "s", "u"), False, ("t", "u")),
        ):
            self.check(("set", "s", on), ("p", "x"), True, [((4, "p", "x"), after)], before)

    def test_a_signal_that_is_switched_off_and_on_comes_last(self):
        plan = Plan([[("set", name, on) for name, on in (
            ("s", True), ("t", True), ("s", True), ("s", False), ("s", True), ("u", False),
        )]], ["p"])
        state = plan.first_state()
        seen = []
        for _ in range(6):
            (state,) = plan.outcomes(state, 0)
            seen.append(state[1])
        self.assertEqual(seen, [("s",), ("s", "t"), ("s", "t"), ("t",), ("t", "s"), ("t", "s")])

    def test_wait(self):
        for on, signals, can in (
            (True, ("s",), True), (True, ("t", "s"), True), (True, (), False), (True, ("t",), False),
            (False, (), True), (False, ("t",), True), (False, ("s",), False),
        ):
            self.check(("wait", "s", on), ("p", "x"), can, [((4, "p", "x"), signals)], signals)

    def test_if(self):
        for at, index in ((2, 4), (3, 3), (4, 4), (5, 7), (6, 7), (7, 7)):
            after = [((4, "p", "x"), ("s",)), ((index, "p", "x"), ("s",))]
            self.check(("if", "i", at), ("p", "x"), True, after, ("s",))

    def test_an_arm_that_has_ended(self):
        plan = Plan([MOVES, [("wait", "s", True)]], ["p", "p"])
        state = (((2, "p", None), (1, "p", None)), ("s",))
        for arm in range(2):
            self.assertIs(plan.can_step(state, arm), False)
            self.assertEqual(plan.outcomes(state, arm), [])

    def test_set_and_if_can_always_step(self):
        blocked = [(0, rest("p"), 1, rest("p")), (0, way("p", "p"), 1, rest("p"))]
        plan = Plan([[("set", "s", True)], [("if", "i", 1)]], ["p", "p"], blocked=blocked)
        self.assertTrue(plan.can_step(plan.first_state(), 0))
        self.assertTrue(plan.can_step(plan.first_state(), 1))

    def test_each_step_leaves_fewer_steps(self):
        chance = random.Random(74)
        for _ in range(60):
            plan = random_plan(chance, 2, 4, 0.1)
            for state in all_states(plan):
                for arm in range(2):
                    for after in plan.outcomes(state, arm):
                        self.assertLess(plan.steps_left(after), plan.steps_left(state))
                        entry = after[0][arm]
                        self.assertFalse(entry[0] < len(plan.flows[arm]) and plan.flows[arm][entry[0]][0] == "jump")


class TestStepsLeft(unittest.TestCase):
    def test_steps_left(self):
        plan = Plan([MOVES, [], EVERY], ["p", "p", "p"])
        self.assertEqual(plan.steps_left(plan.first_state()), 12)
        self.assertEqual(plan.steps_left((((1, "p", None), (0, "p", None), (6, "p", None)), ())), 5)
        self.assertEqual(plan.steps_left((((2, "p", None), (0, "p", None), (10, "p", None)), ())), 0)


class TestWidth(unittest.TestCase):
    def check(self, flows, width):
        self.assertEqual(Plan(flows, ["p"] * len(flows)).width, width)

    def test_steps_points_and_parts(self):
        self.check([[]], 1)
        self.check([[("move", "q")]], 2 * 2)
        self.check([[("move", "q")] * 3], 4 * 2)
        self.check([[("move", "q"), ("move", "r"), ("move", "q")]], 4 * 3)
        self.check([[("hold", "x"), ("hold", None), ("hold", "y")]], 4 * 3)
        self.check([[("hold", None)]], 2)
        self.check([[("if", "i", 2), ("jump", 2)]], 3)
        self.check([EVERY], 11 * 3 * 2 * 2)
        self.check([MOVES, EVERY, []], 3 * 3 * 11 * 3 * 2 * 2)

    def test_signals(self):
        self.check([[("set", "s", True), ("set", "s", False), ("set", "t", False)]], 4 * 4)
        # Signals that several flows switch count once, those that are only waited for do not count.
        self.check([[("set", "s", True)], [("set", "s", False)]], 2 * 2 * 2)
        self.check([[("wait", "s", True)], [("wait", "t", False)]], 2 * 2)
        self.check([[("wait", "s", True)], [("set", "s", True)]], 2 * 2 * 2)

    def test_equal_names_of_several_arms_count_for_each(self):
        self.check([[("move", "q"), ("hold", "x")]] * 2, (3 * 2 * 2) * (3 * 2 * 2))

    def test_far_above_20000(self):
        flow = [("move", f"p{k}") for k in range(80)] + [("set", f"s{k}", True) for k in range(80)]
        flow += [("hold", f"x{k}") for k in range(40)]
        self.check([flow] * 4, (201 * 81 * 41) ** 4 * 2 ** 80)

    def test_it_is_an_attribute_of_each_plan(self):
        self.assertIsInstance(vars(Plan)["width"], property)


if __name__ == "__main__":
    unittest.main()
