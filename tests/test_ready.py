"""Point [87]: flaws, whether a cell can be run, its plan, and its runner."""
import unittest

from things import ZERO, ball
from told_cell import filled, slide_arm

from armwarrant.arms.arm import Arm, Capsule
from armwarrant.arms.joints import Joint
from armwarrant.cell.cell import Cell
from armwarrant.errors import ArmwarrantError, NotReady, NotSafe
from armwarrant.judge.solids import Block, Wall
from armwarrant.order.plan import Plan
from armwarrant.order.safety import is_safe
from armwarrant.runner.runner import Runner

FLOOR = Wall((0, 0, 1), -1000)
HOME, AWAY = ("rest", "o", None), ("rest", "p", None)
OUT = ("move", "o", "p", None)


def arm_edits(name, y, start, last, text, **others):
    """Return the edits for an arm that slides at some y, with its points o and p and its task."""
    return [
        ("arm", name, slide_arm(y, **others)), ("point", name, "o", [start]), ("point", name, "p", [last]),
        ("task", name, "o", text),
    ]


def meeting_arms(*texts):
    """Return a cell with two arms on one line, which come together at 0, each if it is at p."""
    first, second = texts
    return filled(("solid", "s", FLOOR), *arm_edits("a", 0, -500, 0, first), *arm_edits("b", 0, 500, 0, second))


class ReadyCase(unittest.TestCase):
    def check_ready(self, cell):
        self.assertIs(cell.is_runnable(), True)

    def check_not_ready(self, cell):
        self.assertIs(cell.is_runnable(), False)
        with self.assertRaises(NotReady) as caught:
            cell.start_runner()
        self.assertIsInstance(caught.exception, ArmwarrantError)


class TestFlaws(ReadyCase):
    def test_none(self):
        cell = meeting_arms("move p", "")
        self.assertEqual(cell.flaws(), [])
        self.check_ready(cell)

    def test_a_new_cell(self):
        self.assertEqual(Cell().flaws(), [])

    def test_solids(self):
        cell = meeting_arms("move p", "")
        cell.edit([("solid", "t", Block((0, 0, 0), (0, 0, 0), 5))])
        self.assertEqual(cell.flaws(), [("solid", "a", OUT, "t"), ("solid", "a", AWAY, "t")])
        self.check_not_ready(cell)
        # A question that is open is a flaw, too.
        cell.edit([("solid", "t", Block((0, 16, 0), (0, 16, 0), 5))])
        self.assertEqual([cell.verdict(question)[0] for question in cell.flaws()], ["open", "open"])
        self.check_not_ready(cell)
        cell.edit([("solid", "t", Block((0, 30, 0), (0, 30, 0), 5))])
        self.assertEqual(cell.flaws(), [])
        self.check_ready(cell)

    def test_one_flaw_alone(self):
        cell = meeting_arms("", "")
        cell.edit([("solid", "t", Block((-500, 0, 0), (-500, 0, 0), 5))])
        self.assertEqual(cell.flaws(), [("solid", "a", HOME, "t")])
        self.check_not_ready(cell)

    def test_an_arm_and_itself(self):
        joints = [Joint(False, axis, ZERO, -1000, 1000) for axis in (0, 0)]
        arm = Arm(joints, [Capsule(0, ball(ZERO, 5)), Capsule(2, ball(ZERO, 5))])
        cell = filled(("arm", "a", arm), ("point", "a", "o", [0, 100]), ("point", "a", "p", [-50, 50]),
                      ("task", "a", "o", "move p"), ("solid", "s", FLOOR), ("solid", "t", FLOOR))
        self.assertEqual([question[:3] for question in cell.flaws()], [("self", "a", OUT), ("self", "a", AWAY)])
        self.check_not_ready(cell)

    def test_their_order(self):
        cell = meeting_arms("move p", "move p")
        cell.edit([("solid", "t", Block((0, 0, 0), (0, 0, 0), 5)), ("without", "solid", "s"), ("solid", "s", FLOOR),
                   ("without", "task", "a"), ("task", "a", "o", "move p")])
        self.assertEqual(cell.flaws(), [
            ("solid", "b", OUT, "t"), ("solid", "b", AWAY, "t"), ("solid", "a", OUT, "t"), ("solid", "a", AWAY, "t"),
        ])

    def test_questions_about_two_arms_are_no_flaws(self):
        cell = meeting_arms("move p", "move p")
        self.assertEqual(cell.verdict(("arms", "a", AWAY, "b", AWAY))[0], "meets")
        self.assertEqual(cell.flaws(), [])
        self.check_ready(cell)


class TestRunnable(ReadyCase):
    def test_no_tasks(self):
        self.check_not_ready(Cell())
        self.check_not_ready(filled(*arm_edits("a", 0, 0, 1, "")[:3]))

    def test_one_task_without_steps(self):
        self.check_ready(filled(*arm_edits("a", 0, 0, 1, "")))

    def test_a_task_that_cannot_be_looked_at(self):
        usual = arm_edits("a", 0, -500, 0, "move p")
        self.check_ready(filled(*usual))
        for edits in (
            [("task", "b", "o", "")], [("task", "a", "q", "")], [("task", "a", "o", "take x")],
            [("task", "a", "o", "call r")], [("point", "a", "p", [0, 0])], [("without", "point", "a", "p")],
        ):
            cell = filled(*usual, *edits)
            self.check_not_ready(cell)
            cell.undo()

    def test_too_wide(self):
        # Each arm has one point, and no parts and signals.
        for many, ready in ((98, True), (99, False)):
            text = "wait t off " * many + "move p "
            cell = filled(*arm_edits("a", 0, -500, -400, text), *arm_edits("b", 90, 500, 400,
                "move p " + "wait t off " * 48))
            width = (many + 2) * 2 * 50 * 2
            self.assertEqual(cell.make_plan().width, width)
            self.assertIs(cell.is_runnable(), ready)
            self.assertIs(ready, width <= 20000)

    def test_the_greatest_width(self):
        for many, width in (((1, 99, 99), 20000), ((2, 58, 112), 20001)):
            edits = [arm_edits(name, at * 90, 0, 9, "wait t off " * many[at]) for at, name in enumerate("abc")]
            cell = filled(*[edit for rows in edits for edit in rows])
            self.assertEqual(cell.make_plan().width, width)
            self.assertIs(cell.is_runnable(), width == 20000)

    def test_they_begin_clear_of_each_other(self):
        for last, ready in ((-500, False), (-478, False), (-476, False), (-475, True), (-470, True)):
            cell = filled(*arm_edits("a", 0, -500, -500, ""), *arm_edits("b", 0, last, 500, "move p"))
            self.assertEqual(cell.flaws(), [])
            self.assertIs(cell.verdict(("arms", "a", HOME, "b", HOME))[0] == "clear", ready)
            self.assertIs(cell.is_runnable(), ready)

    def test_any_two_begin_clear_of_each_other(self):
        places = {"a": 0, "b": 100, "c": 200}
        for one, other in (("a", "b"), ("a", "c"), ("b", "c")):
            cell = filled(*[edit for name in "abc" for edit in arm_edits(
                name, 0, places[one] + 5 if name == other else places[name], 5000, "",
            )])
            self.assertEqual([q[1::2] for q in cell.questions if cell.verdict(q)[0] != "clear"], [(one, other)])
            self.check_not_ready(cell)

    def test_only_where_they_begin(self):
        # Where they begin both hold nothing; with its part, the first one meets the second one there.
        part = ("part", "x", [ball((1000, 0, 0), 5)])
        cell = filled(part, *arm_edits("a", 0, -500, -490, "take x move p"), *arm_edits("b", 0, 500, 900, ""))
        self.assertEqual(cell.verdict(("arms", "a", ("rest", "o", "x"), "b", HOME))[0], "meets")
        self.assertEqual(cell.verdict(("arms", "a", HOME, "b", HOME))[0], "clear")
        self.check_ready(cell)


class TestPlan(ReadyCase):
    def test_flows_and_starts(self):
        cell = meeting_arms("if i { move p } move o", "set s on wait s on")
        plan = cell.make_plan()
        self.assertIsInstance(plan, Plan)
        self.assertEqual(plan.flows, [
            [("if", "i", 2), ("move", "p"), ("move", "o")], [("set", "s", True), ("wait", "s", True)],
        ])
        self.assertEqual(plan.starts, ["o", "o"])
        cell.edit([("task", "b", "p", "")])
        self.assertEqual(cell.make_plan().starts, ["o", "p"])

    def test_blocked_places(self):
        cell = meeting_arms("move p take x", "move p")
        cell.edit([("part", "x", [ball((500, 0, 0), 5)])])
        plan = cell.make_plan()
        clear = 0
        for question in cell.questions:
            if question[0] == "arms":
                told = cell.verdict(question)[0] == "clear"
                self.assertIs(plan.is_clear(0, question[2], 1, question[4]), told)
                self.assertIs(plan.is_clear(1, question[4], 0, question[2]), told)
                clear += told
        self.assertTrue(0 < clear < 12)
        # An open one is blocked, too.
        cell = filled(*arm_edits("a", 0, 0, 5, ""), *arm_edits("b", 0, 21, 50, ""))
        self.assertEqual(cell.verdict(("arms", "a", HOME, "b", HOME))[0], "open")
        self.assertFalse(cell.make_plan().is_clear(0, HOME, 1, HOME))

    def test_tasks_that_can_be_looked_at_alone(self):
        edits = arm_edits("a", 0, -500, 0, "move p") + arm_edits("b", 0, 500, 0, "set s on")
        edits += arm_edits("c", 0, 0, 9, "")
        cell = filled(*edits, ("without", "arm", "b"))
        plan = cell.make_plan()
        self.assertEqual((plan.flows, plan.starts), ([[("move", "p")], []], ["o", "o"]))
        self.assertFalse(plan.is_clear(0, AWAY, 1, HOME))
        self.assertEqual(cell.arms_in_order(), ["a", "c"])
        self.check_not_ready(cell)

    def test_a_plan_with_flaws(self):
        cell = filled(*arm_edits("a", 0, 0, 5, "move p"), ("solid", "s", Wall((0, 0, 1), 1000)))
        self.assertEqual(cell.make_plan().flows, [[("move", "p")]])
        self.check_not_ready(cell)

    def test_no_task_can_be_looked_at(self):
        for cell in (Cell(), filled(("task", "a", "o", "")), filled(*arm_edits("a", 0, 0, 5, "call r"))):
            with self.assertRaises(NotReady) as caught:
                cell.make_plan()
            self.assertIsInstance(caught.exception, ArmwarrantError)
            self.check_not_ready(cell)


class TestStart(ReadyCase):
    def test_a_run(self):
        cell = meeting_arms("move p move o", "move p move o")
        runner = cell.start_runner()
        self.assertIsInstance(runner, Runner)
        self.assertEqual(runner.state, cell.make_plan().first_state())
        runner.begin(0)
        # The first arm is on its way to where both would meet.
        self.assertEqual(runner.may(1), ("in the way", 0))
        for arm in (0, 1):
            for _ in range(2):
                if not runner.is_under_way(arm):
                    runner.begin(arm)
                runner.end(arm)
        self.assertTrue(runner.is_over)

    def test_not_safe(self):
        cell = meeting_arms("move p", "move p")
        self.check_ready(cell)
        self.assertFalse(is_safe(cell.make_plan(), cell.make_plan().first_state()))
        with self.assertRaises(NotSafe) as caught:
            cell.start_runner()
        self.assertIsInstance(caught.exception, ArmwarrantError)
        cell = filled(*arm_edits("a", 0, 0, 5, "wait s on"))
        self.check_ready(cell)
        with self.assertRaises(NotSafe):
            cell.start_runner()

    def test_not_ready_ahead_of_not_safe(self):
        cell = meeting_arms("move p", "move p")
        cell.edit([("task", "c", "o", "")])
        self.check_not_ready(cell)
        cell.undo()
        cell.edit([("solid", "s", Wall((0, 0, 1), 1000))])
        self.check_not_ready(cell)

    def test_a_runner_stays_as_it_is_when_the_cell_is_edited(self):
        cell = meeting_arms("move p move o", "move p")
        runner = cell.start_runner()
        runner.begin(0)
        state, flows = runner.state, [list(flow) for flow in runner.plan.flows]
        cell.edit([("task", "a", "p", ""), ("without", "task", "b"), ("point", "a", "p", [9])])
        self.assertEqual((runner.state, runner.plan.flows), (state, flows))
        self.assertEqual(runner.may(1), ("in the way", 0))
        runner.end(0)
        runner.begin(0)
        runner.end(0)
        runner.begin(1)
        runner.end(1)
        self.assertTrue(runner.is_over)

    def test_plans_and_runners_do_not_change_the_cell(self):
        cell = meeting_arms("move p move o", "move p")
        plan = cell.make_plan()
        plan.flows[0].clear()
        plan.starts.clear()
        cell.start_runner().begin(0)
        self.assertEqual(cell.make_plan().flows, [[("move", "p"), ("move", "o")], [("move", "p")]])
        self.assertEqual(cell.make_plan().starts, ["o", "o"])


if __name__ == "__main__":
    unittest.main()
