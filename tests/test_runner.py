"""Points [94] to [98]: the runner, what may be done, and events."""
import unittest

from armwarrant.errors import ArmwarrantError, NotNow, NotSafe, UnknownArm
from armwarrant.order.plan import Plan
from armwarrant.runner.runner import Runner

GO = [("move", "q")]
WAIT = [("wait", "s", True)]
SET = [("set", "s", True)]
READ = [("if", "i", 1)]  # at the beginning of a flow
EVENTS = ("begin", "end", "go_on", "halt", "free")


def rest(point, part=None):
    return ("rest", point, part)


def way(first, last, part=None):
    return ("move", first, last, part)


def runner_of(flows, *blocked):
    return Runner(Plan(flows, ["p"] * len(flows), blocked=blocked))


def told(runner):
    """Return all that a runner tells."""
    arms = range(len(runner.plan.flows))
    return (
        runner.state, runner.events, runner.state_ahead(), runner.is_over, [runner.may(arm) for arm in arms],
        [(runner.place_of(arm), runner.is_halted(arm), runner.is_under_way(arm)) for arm in arms],
    )


class RunnerCase(unittest.TestCase):
    def check_may(self, runner, *words):
        """Check what is told of each arm: a word, or the word and the other arm."""
        for arm, word in enumerate(words):
            expected = word if isinstance(word, tuple) else (word, None)
            with self.subTest(arm=arm):
                self.assertEqual(runner.may(arm), expected)
                self.assertIs(type(runner.may(arm)), tuple)

    def check_not_now(self, runner, *events):
        """Check that these events of these arms cannot happen, and change nothing."""
        before = told(runner)
        for name, arm in events:
            with self.subTest(name=name, arm=arm):
                with self.assertRaises(NotNow) as caught:
                    if name in ("on", "off"):
                        runner.read_input(arm, on=name == "on")
                    else:
                        getattr(runner, name)(arm)
                self.assertIsInstance(caught.exception, ArmwarrantError)
        self.assertEqual(told(runner), before)


class TestBegin(RunnerCase):
    def test_a_new_runner(self):
        plan = Plan([[("jump", 1)] + GO, []], ["a", "b"])
        runner = Runner(plan)
        self.assertIs(runner.plan, plan)
        self.assertEqual((runner.state, runner.events), (plan.first_state(), 0))
        self.assertEqual(runner.state_ahead(), plan.first_state())
        for arm in range(2):
            self.assertIs(runner.is_halted(arm), False)
            self.assertIs(runner.is_under_way(arm), False)
            self.assertEqual(runner.place_of(arm), rest("ab"[arm]))

    def test_not_safe(self):
        for flows, blocked in (
            ([WAIT], []), ([GO, []], [(0, way("p", "q"), 1, rest("p"))]), ([[("if", "i", 2)] + WAIT], []),
        ):
            with self.assertRaises(NotSafe) as caught:
                runner_of(flows, *blocked)
            self.assertIsInstance(caught.exception, ArmwarrantError)

    def test_it_is_over(self):
        self.assertIs(runner_of([[], []]).is_over, True)
        runner = runner_of([SET, []])
        self.assertIs(runner.is_over, False)
        runner.go_on(0)
        self.assertIs(runner.is_over, True)
        runner = runner_of([GO])
        runner.begin(0)
        self.assertIs(runner.is_over, False)
        runner.end(0)
        self.assertIs(runner.is_over, True)
        self.assertIsInstance(vars(Runner)["is_over"], property)

    def test_later_changes_of_the_plan_have_no_effect(self):
        plan = Plan([GO + SET, []], ["p", "p"])
        runner = Runner(plan)
        plan.flows[0].clear()
        plan.flows.pop()
        plan.starts[0] = "z"
        self.check_may(runner, "begin", "ended")
        runner.begin(0)
        self.assertEqual(runner.place_of(0), way("p", "q"))
        runner.end(0)
        self.check_may(runner, "go on", "ended")
        self.assertIs(runner.is_over, False)
        other = runner.fork()
        other.go_on(0)
        self.assertIs(other.is_over, True)

    def test_the_plan_stays_as_it_is(self):
        plan = Plan([GO, SET], ["p", "p"])
        runner = Runner(plan)
        runner.begin(0)
        runner.go_on(1)
        runner.end(0)
        self.assertEqual((plan.flows, plan.starts), ([GO, SET], ["p", "p"]))


class TestWords(RunnerCase):
    def test_what_may_be_done(self):
        self.check_may(runner_of([GO]), "begin")
        self.check_may(runner_of([READ]), "read")
        for step in (("set", "s", True), ("set", "s", False), ("wait", "s", False), ("hold", "x"), ("hold", None)):
            self.check_may(runner_of([[step]]), "go on")
        self.check_may(runner_of([[]]), "ended")

    def test_under_way(self):
        runner = runner_of([GO])
        runner.begin(0)
        self.check_may(runner, "under way")
        # It is told ahead of halted.
        runner.halt(0)
        self.check_may(runner, "under way")

    def test_ended(self):
        runner = runner_of([[], GO])
        # It is told ahead of halted, too.
        runner.halt(0)
        self.check_may(runner, "ended", "begin")

    def test_halted(self):
        runner = runner_of([GO, READ, SET, [("hold", "x")]])
        for arm in range(4):
            runner.halt(arm)
        # Only moves are halted.
        self.check_may(runner, "halted", "read", "go on", "go on")

    def test_halted_ahead_of_in_the_way_and_held_back(self):
        runner = runner_of([GO, GO], (0, way("p", "q"), 1, rest("p")))
        self.check_may(runner, ("in the way", 1), "begin")
        runner.halt(0)
        self.check_may(runner, "halted", "begin")
        runner = runner_of([GO, GO], (1, way("p", "q"), 0, rest("q")))
        self.check_may(runner, "held back", "begin")
        runner.halt(0)
        self.check_may(runner, "halted", "begin")

    def test_in_the_way_of_a_move(self):
        runner = runner_of([GO, GO, []], (0, way("p", "q"), 1, rest("p")))
        self.check_may(runner, ("in the way", 1), "begin", "ended")
        runner.begin(1)
        # The way of the other arm is clear of it, and so is the end of this way.
        self.check_may(runner, "begin", "under way")
        runner.end(1)
        self.check_may(runner, "begin", "ended")

    def test_in_the_way_of_a_hold(self):
        runner = runner_of([[("hold", "x")], GO], (1, rest("p"), 0, rest("p", "x")))
        self.check_may(runner, ("in the way", 1), "begin")

    def test_on_the_way_and_in_the_way(self):
        pair = (0, way("p", "q"), 1, way("p", "q"))
        runner = runner_of([GO, GO], pair)
        self.check_may(runner, "begin", "begin")
        runner.begin(1)
        self.check_may(runner, ("in the way", 1), "under way")
        runner.halt(1)
        self.check_may(runner, ("in the way", 1), "under way")
        runner.free(1)
        runner.end(1)
        self.check_may(runner, "begin", "ended")

    def test_the_first_other_arm_is_told(self):
        pairs = [(0, way("p", "q"), other, rest("p")) for other in (2, 3)]
        runner = runner_of([GO] * 4, *pairs)
        self.check_may(runner, ("in the way", 2), "begin", "begin", "begin")
        runner.begin(2)
        self.check_may(runner, ("in the way", 3), "begin", "under way", "begin")

    def test_in_the_way_ahead_of_held_back(self):
        # Behind its way the first arm would stand in the way of the second one, which now is in its way.
        runner = runner_of([GO, GO], (0, way("p", "q"), 1, rest("p")), (1, way("p", "q"), 0, rest("q")))
        self.check_may(runner, ("in the way", 1), "begin")

    def test_signal(self):
        runner = runner_of([WAIT, SET])
        self.check_may(runner, "signal", "go on")
        runner.halt(0)
        self.check_may(runner, "signal", "go on")
        runner.go_on(1)
        self.check_may(runner, "go on", "ended")
        runner = runner_of([[("wait", "s", False)], SET + [("set", "s", False)]])
        runner.go_on(1)
        self.check_may(runner, "signal", "go on")

    def test_held_back(self):
        block = (1, way("p", "q"), 0, rest("q"))
        self.check_may(runner_of([GO, GO], block), "held back", "begin")
        block = (1, way("p", "q"), 0, rest("p", "x"))
        self.check_may(runner_of([[("hold", "x")], GO], block), "held back", "begin")
        self.check_may(runner_of([SET, [("wait", "s", False)]]), "held back", "go on")

    def test_reads_and_waits_are_not_held_back(self):
        # Whatever is read, the arm can wait with its move until the other one is gone.
        block = (1, way("p", "q"), 0, rest("q"))
        runner = runner_of([[("if", "i", 2)] + GO, GO], block)
        self.check_may(runner, "read", "begin")
        runner.read_input(0, on=True)
        self.check_may(runner, "held back", "begin")
        runner = runner_of([[("wait", "s", False)] + GO, GO], block)
        self.check_may(runner, "go on", "begin")
        runner.go_on(0)
        self.check_may(runner, "held back", "begin")

    def test_held_back_for_what_may_be_read(self):
        # If the second arm reads on, it waits for a signal that is off.
        flows = [SET, [("if", "i", 2), ("wait", "s", False)]]
        runner = runner_of(flows)
        self.check_may(runner, "held back", "read")
        off = runner.fork()
        runner.read_input(1, on=True)
        self.check_may(runner, "held back", "go on")
        off.read_input(1, on=False)
        self.check_may(off, "go on", "ended")

    def test_the_state_ahead_counts(self):
        # Each of the arms may go to q alone, but together they could not leave it.
        flows = [GO + [("move", "r")], GO + [("move", "r")], []]
        blocks = [(0, way("q", "r"), 1, rest("q")), (1, way("q", "r"), 0, rest("q"))]
        runner = runner_of(flows, *blocks)
        self.check_may(runner, "begin", "begin", "ended")
        runner.begin(0)
        self.assertEqual(runner.state, runner.plan.first_state())
        self.check_may(runner, "under way", "held back", "ended")
        runner.end(0)
        self.check_may(runner, "begin", "held back", "ended")
        runner.begin(0)
        # Ahead, the first arm is out of the way.
        self.check_may(runner, "under way", "begin", "ended")


class TestPlaces(RunnerCase):
    def test_places(self):
        runner = runner_of([[("hold", "x"), ("move", "q"), ("move", "q")], GO])
        runner.go_on(0)
        self.assertEqual(runner.place_of(0), rest("p", "x"))
        runner.begin(0)
        self.assertEqual((runner.place_of(0), runner.place_of(1)), (way("p", "q", "x"), rest("p")))
        self.assertEqual((runner.is_under_way(0), runner.is_under_way(1)), (True, False))
        runner.halt(0)
        self.assertEqual(runner.place_of(0), way("p", "q", "x"))
        runner.free(0)
        runner.end(0)
        self.assertEqual(runner.place_of(0), rest("q", "x"))
        runner.begin(0)
        self.assertEqual(runner.place_of(0), way("q", "q", "x"))

    def test_the_state_ahead(self):
        runner = runner_of([GO + SET, GO, [("set", "t", True)] + GO])
        first = runner.state
        runner.begin(0)
        runner.begin(1)
        self.assertEqual(runner.state, first)
        ahead = (((1, "q", None), (1, "q", None), (0, "p", None)), ())
        self.assertEqual(runner.state_ahead(), ahead)
        runner.go_on(2)
        runner.begin(2)
        self.assertEqual(runner.state, (((0, "p", None), (0, "p", None), (1, "p", None)), ("t",)))
        self.assertEqual(runner.state_ahead(), (((1, "q", None), (1, "q", None), (2, "q", None)), ("t",)))
        runner.end(1)
        self.assertEqual(runner.state, (((0, "p", None), (1, "q", None), (1, "p", None)), ("t",)))
        self.assertEqual(runner.state_ahead(), (((1, "q", None), (1, "q", None), (2, "q", None)), ("t",)))


class TestEvents(RunnerCase):
    def test_a_move(self):
        runner = runner_of([[("move", "q"), ("jump", 2)] + GO])
        self.check_not_now(runner, ("end", 0), ("go_on", 0), ("on", 0), ("off", 0), ("free", 0))
        self.assertIsNone(runner.begin(0))
        self.assertEqual((runner.state, runner.events), (runner.plan.first_state(), 1))
        self.check_not_now(runner, ("begin", 0), ("go_on", 0), ("on", 0), ("off", 0), ("free", 0))
        self.assertIsNone(runner.end(0))
        self.assertEqual((runner.state, runner.events), ((((2, "q", None),), ()), 2))
        self.assertIs(runner.is_under_way(0), False)
        self.check_not_now(runner, ("end", 0))

    def test_go_on(self):
        runner = runner_of([[("hold", "x"), ("set", "s", True), ("wait", "s", True), ("hold", None)], GO])
        for number in range(4):
            self.check_not_now(runner, ("begin", 0), ("end", 0), ("on", 0), ("off", 0), ("free", 0), ("go_on", 1))
            self.assertIsNone(runner.go_on(0))
            self.assertEqual(runner.events, number + 1)
        self.assertEqual(runner.state, (((4, "p", None), (0, "p", None)), ("s",)))
        self.check_not_now(runner, ("begin", 0), ("end", 0), ("go_on", 0), ("on", 0), ("off", 0))

    def test_read(self):
        flow = [("if", "i", 3), ("move", "q"), ("jump", 4), ("move", "r")]
        for on, at in ((True, 1), (False, 3)):
            runner = runner_of([flow])
            self.check_not_now(runner, ("begin", 0), ("end", 0), ("go_on", 0), ("free", 0))
            self.assertIsNone(runner.read_input(0, on=on))
            self.assertEqual((runner.state, runner.events), ((((at, "p", None),), ()), 1))
            self.check_not_now(runner, ("on", 0), ("off", 0))

    def test_what_is_not_told_cannot_happen(self):
        runner = runner_of([GO, GO], (0, way("p", "q"), 1, rest("p")))
        self.check_not_now(runner, ("begin", 0))
        runner = runner_of([WAIT, SET])
        self.check_not_now(runner, ("go_on", 0))
        runner = runner_of([GO, GO], (1, way("p", "q"), 0, rest("q")))
        self.check_not_now(runner, ("begin", 0))
        runner = runner_of([SET, [("wait", "s", False)]])
        self.check_not_now(runner, ("go_on", 0))
        runner = runner_of([[("if", "j", 2), ("set", "s", True)], [("wait", "s", False)]])
        runner.read_input(0, on=True)
        self.check_not_now(runner, ("go_on", 0), ("on", 0), ("off", 0))

    def test_halt_and_free(self):
        runner = runner_of([GO, []])
        for arm in range(2):
            self.check_not_now(runner, ("free", arm))
            self.assertIsNone(runner.halt(arm))
            self.assertIs(runner.is_halted(arm), True)
            self.check_not_now(runner, ("halt", arm), ("begin", arm))
            self.assertIsNone(runner.free(arm))
            self.assertIs(runner.is_halted(arm), False)
        self.assertEqual((runner.state, runner.events), (runner.plan.first_state(), 0))

    def test_halt_of_one_arm(self):
        runner = runner_of([GO, GO])
        runner.halt(1)
        self.assertEqual([runner.is_halted(0), runner.is_halted(1)], [False, True])
        self.check_may(runner, "begin", "halted")

    def test_an_arm_that_is_under_way_is_halted(self):
        runner = runner_of([GO])
        runner.begin(0)
        runner.halt(0)
        self.assertEqual((runner.is_halted(0), runner.is_under_way(0), runner.events), (True, True, 1))
        self.check_not_now(runner, ("end", 0), ("halt", 0), ("begin", 0))
        runner.free(0)
        self.assertEqual(runner.events, 1)
        runner.end(0)
        self.assertEqual((runner.state, runner.events), ((((1, "q", None),), ()), 2))

    def test_an_arm_that_is_halted_can_do_other_steps(self):
        runner = runner_of([SET + [("if", "i", 2), ("hold", "x")]])
        runner.halt(0)
        runner.go_on(0)
        runner.read_input(0, on=True)
        runner.go_on(0)
        self.assertEqual((runner.is_over, runner.is_halted(0), runner.events), (True, True, 3))


class TestFork(RunnerCase):
    def run_of(self):
        runner = runner_of([GO + [("if", "i", 2)], GO, SET], (0, way("p", "q"), 1, way("p", "q")))
        runner.go_on(2)
        runner.begin(0)
        runner.halt(1)
        return runner

    def test_the_same_state(self):
        runner = self.run_of()
        other = runner.fork()
        self.assertIs(type(other), Runner)
        self.assertIsNot(other, runner)
        self.assertIs(other.plan, runner.plan)
        self.assertEqual(told(other), told(runner))

    def test_later_events_do_not_change_the_other_one(self):
        for turned in (False, True):
            runner = self.run_of()
            other = runner.fork()
            before = told(runner)
            first, second = (other, runner) if turned else (runner, other)
            first.end(0)
            first.halt(0)
            first.free(1)
            first.begin(1)
            self.assertEqual(told(second), before)
            self.assertEqual(first.events, 4)
            second.halt(2)
            self.assertIs(first.is_halted(2), False)
            second.end(0)
            self.assertEqual(second.events, 3)

    def test_a_fork_of_a_fork(self):
        runner = self.run_of()
        other = runner.fork().fork()
        other.end(0)
        self.assertEqual((runner.events, other.events), (2, 3))


class TestUnknownArm(RunnerCase):
    def test_every_method(self):
        for many in (1, 2):
            runner = runner_of([GO] * many)
            before = told(runner)
            for arm in (-1, -many, many, many + 1, 99):
                for call in (
                    runner.may, runner.begin, runner.end, runner.go_on, runner.halt, runner.free,
                    runner.place_of, runner.is_halted, runner.is_under_way,
                    lambda arm: runner.read_input(arm, on=True), lambda arm: runner.read_input(arm, on=False),
                ):
                    with self.assertRaises(UnknownArm) as caught:
                        call(arm)
                    self.assertIsInstance(caught.exception, ArmwarrantError)
            self.assertEqual(told(runner), before)

    def test_ahead_of_not_now(self):
        # Each of these events could not happen for any arm.
        runner = runner_of([[]])
        for name in EVENTS:
            with self.assertRaises(UnknownArm):
                getattr(runner, name)(1)


if __name__ == "__main__":
    unittest.main()
