"""Points [97] to [102]: many runs with drawn events, and what holds at every moment of them."""
import random
import unittest

from random_plans import random_plan, told_safe

from armwarrant.errors import NotNow, NotSafe
from armwarrant.programs.deeds import deeds_of_flow
from armwarrant.runner.runner import Runner


def told_may(runner, arm, known):
    """Return what may be done with an arm, row by row as the table of point [97] tells."""
    plan, state = runner.plan, runner.state
    others = [other for other in range(len(plan.flows)) if other != arm]
    step = plan.step_of(state, arm)
    if runner.is_under_way(arm):
        return ("under way", None)
    if plan.has_ended(state, arm):
        return ("ended", None)
    if runner.is_halted(arm) and step[0] == "move":
        return ("halted", None)
    place = plan.wanted(state, arm)
    for other in others:
        if place is not None and not plan.is_clear(arm, place, other, runner.place_of(other)):
            return ("in the way", other)
    if step[0] == "wait" and (step[1] in state[1]) != step[2]:
        return ("signal", None)
    if not all(told_safe(plan, after, known) for after in plan.outcomes(runner.state_ahead(), arm)):
        return ("held back", None)
    return ({"move": "begin", "if": "read"}.get(step[0], "go on"), None)


class Run:
    """A runner with what was done and read in its run."""

    def __init__(self, test, chance, plan):
        self.test, self.chance, self.plan = test, chance, plan
        self.runner = Runner(plan)
        self.known = {}
        self.arms = range(len(plan.flows))
        self.deeds = [[] for _ in self.arms]
        self.readings = [[] for _ in self.arms]
        self.counted = 0

    def events(self):
        """Return the events that can happen, told by what may be done."""
        found = []
        for arm in self.arms:
            word, _ = told_may(self.runner, arm, self.known)
            halted = self.runner.is_halted(arm)
            found.append(("free" if halted else "halt", arm))
            if word == "under way" and not halted:
                found.append(("end", arm))
            if word in ("begin", "go on"):
                found.append((word.replace(" ", "_"), arm))
            if word == "read":
                found += [("on", arm), ("off", arm)]
        return found

    def happen(self, runner, event):
        name, arm = event
        if name in ("on", "off"):
            runner.read_input(arm, on=name == "on")
        else:
            getattr(runner, name)(arm)

    def step(self):
        """Let an event happen, mostly one that counts."""
        possible = self.events()
        counting = [event for event in possible if event[0] not in ("halt", "free")]
        if counting and self.chance.random() < 0.8:
            event = self.chance.choice(counting)
        else:
            event = self.chance.choice(possible)
        name, arm = event
        step = self.plan.step_of(self.runner.state, arm)
        self.happen(self.runner, event)
        self.counted += name not in ("halt", "free")
        if name in ("end", "go_on"):
            self.deeds[arm].append(step)
        if name in ("on", "off"):
            self.readings[arm].append(name == "on")

    def check(self):
        runner, test, plan = self.runner, self.test, self.plan
        for arm in self.arms:
            test.assertEqual(runner.may(arm), told_may(runner, arm, self.known))
        # [99]
        test.assertTrue(told_safe(plan, runner.state_ahead(), self.known))
        for arm in self.arms:
            for other in range(arm):
                test.assertTrue(plan.is_clear(arm, runner.place_of(arm), other, runner.place_of(other)))
        # [100]
        freed = runner.fork()
        for arm in self.arms:
            if freed.is_halted(arm):
                freed.free(arm)
        words = [freed.may(arm)[0] for arm in self.arms]
        test.assertIs(runner.is_over, all(word == "ended" for word in words))
        test.assertTrue(runner.is_over or any(word in ("under way", "begin", "go on", "read") for word in words))
        # [101]
        test.assertEqual(runner.events, self.counted)
        test.assertLessEqual(runner.events, 2 * sum(len(flow) for flow in plan.flows))
        # [102]
        for arm in self.arms:
            deeds, taken = deeds_of_flow(plan.flows[arm], self.readings[arm])
            test.assertEqual(self.deeds[arm], deeds[:len(self.deeds[arm])])
            if plan.has_ended(runner.state, arm):
                test.assertEqual((self.deeds[arm], len(self.readings[arm])), (deeds, taken))

    def check_other_events(self):
        """Check that no other event can happen."""
        possible = self.events()
        for name in ("begin", "end", "go_on", "on", "off", "halt", "free"):
            for arm in self.arms:
                if (name, arm) not in possible:
                    with self.test.assertRaises(NotNow):
                        self.happen(self.runner, (name, arm))


class TestRuns(unittest.TestCase):
    def test_drawn_runs(self):
        chance = random.Random(99)
        runs, words = 0, {}
        while runs < 250:
            plan = random_plan(chance, chance.choice((2, 2, 3)), 5, chance.choice((0.05, 0.12, 0.2)))
            try:
                run = Run(self, chance, plan)
            except NotSafe:
                self.assertFalse(told_safe(plan, plan.first_state(), {}))
                continue
            runs += 1
            self.assertTrue(told_safe(plan, plan.first_state(), run.known))
            run.check()
            while not run.runner.is_over:
                run.step()
                run.check()
                if chance.random() < 0.1:
                    run.check_other_events()
                for arm in run.arms:
                    word = run.runner.may(arm)[0]
                    words[word] = words.get(word, 0) + 1
        # Each word was told often.
        self.assertEqual(len(words), 9)
        self.assertGreater(min(words.values()), 15, words)

    def test_whoever_goes_on_as_may_be_done_comes_to_the_end(self):
        chance = random.Random(100)
        runs = 0
        while runs < 150:
            plan = random_plan(chance, 3, 5, 0.1)
            try:
                run = Run(self, chance, plan)
            except NotSafe:
                continue
            runs += 1
            for _ in range(2 * sum(len(flow) for flow in plan.flows)):
                counting = [event for event in run.events() if event[0] not in ("halt", "free")]
                if counting:
                    run.happen(run.runner, chance.choice(counting))
            self.assertTrue(run.runner.is_over)

    def test_forks_go_their_own_ways(self):
        chance = random.Random(101)
        runs = 0
        while runs < 60:
            plan = random_plan(chance, 2, 5, 0.1)
            try:
                run = Run(self, chance, plan)
            except NotSafe:
                continue
            runs += 1
            for _ in range(4):
                if not run.runner.is_over:
                    run.step()
            kept = run.runner
            seen = (kept.state, kept.events, [kept.may(arm) for arm in run.arms])
            run.runner = kept.fork()
            while not run.runner.is_over:
                run.step()
            run.check()
            self.assertEqual((kept.state, kept.events, [kept.may(arm) for arm in run.arms]), seen)


if __name__ == "__main__":
    unittest.main()
