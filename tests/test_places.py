"""Points [82] to [85]: the tasks that can be looked at, their places, and the questions of a cell."""
import random
import unittest

from random_programs import random_program_with_flow
from things import ZERO, ball
from told_cell import filled, slide_arm, told_places

from armwarrant.arms.arm import Arm, Capsule
from armwarrant.arms.joints import Joint
from armwarrant.cell.cell import Cell
from armwarrant.cell.places import places_of
from armwarrant.judge.solids import Block, Wall
from armwarrant.programs.flows import flow_of
from armwarrant.programs.reading import read_program

PART = [ball(ZERO, 5)]
FLOOR = Wall((0, 0, 1), -1000)


def rest(point, part=None):
    return ("rest", point, part)


def way(first, last, part=None):
    return ("move", first, last, part)


def points(arm, *names):
    return [("point", arm, name, [100 * at]) for at, name in enumerate(names)]


def places_of_text(text, start="o"):
    """Return the places of a task, told by the questions of a cell in which everything is there."""
    edits = [("arm", "a", slide_arm())] + points("a", "o", "p", "q", "r") + [("part", name, PART) for name in "xy"]
    cell = filled(*edits, ("task", "a", start, text))
    return [question[2] for question in cell.questions]


class TestPlaces(unittest.TestCase):
    def check(self, text, *places):
        with self.subTest(text):
            self.assertEqual(places_of_text(text), list(places))
            self.assertEqual(places_of(flow_of(read_program(text)), "o"), list(places))

    def test_no_steps(self):
        self.check("", rest("o"))
        self.check("set s on wait t off", rest("o"))

    def test_moves(self):
        self.check("move p move q", rest("o"), way("o", "p"), rest("p"), way("p", "q"), rest("q"))
        self.check("move p move o move p", rest("o"), way("o", "p"), rest("p"), way("p", "o"))

    def test_moves_to_the_same_point(self):
        self.check("move o", rest("o"), way("o", "o"))
        self.check("move p move p", rest("o"), way("o", "p"), rest("p"), way("p", "p"))

    def test_holds(self):
        self.check("take x", rest("o"), rest("o", "x"))
        self.check("move p take x move q release", rest("o"), way("o", "p"), rest("p"), rest("p", "x"),
                   way("p", "q", "x"), rest("q", "x"), rest("q"))
        self.check("release take x take y", rest("o"), rest("o", "x"), rest("o", "y"))

    def test_if(self):
        # The if hands its pair on to the step behind the list at once, ahead of what comes through the list.
        self.check("if i { move p } move q", rest("o"), way("o", "p"), way("o", "q"), rest("p"), way("p", "q"),
                   rest("q"))
        self.check("if i { } move q", rest("o"), way("o", "q"), rest("q"))

    def test_if_with_a_second_list(self):
        self.check("if i { move p } else { move q } move r", rest("o"), way("o", "p"), way("o", "q"), rest("p"),
                   way("p", "r"), rest("q"), way("q", "r"), rest("r"))
        self.check("if i { take x } else { take y } move p", rest("o"), rest("o", "x"), way("o", "p", "x"),
                   rest("o", "y"), way("o", "p", "y"), rest("p", "x"), rest("p", "y"))
        self.check("if i { } else { move q } move r", rest("o"), way("o", "q"), way("o", "r"), rest("q"), way("q", "r"),
                   rest("r"))

    def test_pairs_are_handed_on_in_their_order(self):
        self.check("if i { if j { move p } move q } move r", rest("o"), way("o", "p"), way("o", "q"), rest("p"),
                   way("p", "q"), way("o", "r"), rest("q"), way("q", "r"), rest("r"))
        # At the second if there are o and p; it hands both of them on to the last step ahead of q.
        self.check("if i { move p } if j { move q } move r", rest("o"), way("o", "p"), rest("p"), way("o", "q"),
                   way("p", "q"), way("o", "r"), way("p", "r"), rest("q"), way("q", "r"), rest("r"))
        # A pair that is there already keeps its place.
        self.check("if i { move p move o } else { take x } move q", rest("o"), way("o", "p"), rest("p"), way("p", "o"),
                   way("o", "q"), rest("o", "x"), way("o", "q", "x"), rest("q"), rest("q", "x"))

    def test_an_if_without_steps(self):
        # Both ways of the if lead to the same step.
        self.check("if i { } else { repeat 2 { } } move p", rest("o"), way("o", "p"), rest("p"))

    def test_an_if_in_a_repeat(self):
        self.check("repeat 2 { if i { move p } else { take x } }", rest("o"), way("o", "p"), rest("p"), rest("o", "x"),
                   way("p", "p"), way("o", "p", "x"), rest("p", "x"))

    def test_calls(self):
        self.check("routine r { move p } call r take x call r", rest("o"), way("o", "p"), rest("p"), rest("p", "x"),
                   way("p", "p", "x"))

    def test_each_place_once(self):
        self.check("repeat 9 { move p move o }", rest("o"), way("o", "p"), rest("p"), way("p", "o"))

    def test_random_flows(self):
        chance = random.Random(83)
        most = 0
        for _ in range(400):
            flow = flow_of(random_program_with_flow(chance))
            places = places_of(flow, chance.choice("ab"))
            start = places[0][1]
            self.assertEqual(places[0], rest(start))
            self.assertEqual(len(set(places)), len(places))
            self.assertEqual(set(places), told_places(flow, start))
            most = max(most, len(places))
        self.assertGreater(most, 15)


class TestProblems(unittest.TestCase):
    def check(self, problem, *edits, text="move p take x move q release move r", start="o", without=()):
        """Check the problem of a task in a cell in which some things are not there, or others than usual."""
        usual = [("arm", "a", slide_arm())] + points("a", "o", "p", "q", "r") + [("part", "x", PART)]
        kept = [edit for edit in usual if edit[-2] not in without]
        cell = filled(*kept, *edits, ("task", "a", start, text))
        with self.subTest(problem=problem, text=text):
            self.assertEqual(cell.problems(), [] if problem is None else [("a", problem)])
            self.assertEqual(cell.arms_in_order(), ["a"] if problem is None else [])
            self.assertEqual(cell.questions == [], problem is not None)

    def test_none(self):
        self.check(None)
        self.check(None, text="")

    def test_no_arm(self):
        self.check(("no arm",), without="a")
        # It is told ahead of all others.
        self.check(("no arm",), without="aopqrx", text="call nowhere")

    def test_no_flow(self):
        for text in ("call r", "routine r { call r } call r", "repeat 99 { repeat 99 { move p } }"):
            self.check(("no flow",), text=text)
            # It is told ahead of what is wrong with the places.
            self.check(("no flow",), without="opqrx", text=text)

    def test_no_point(self):
        for name in "opqr":
            self.check(("no point", name), without=name)
        self.check(("no point", "z"), start="z")
        self.check(("no point", "o"), without="o", text="")
        # Points of other arms are no help.
        self.check(("no point", "p"), ("point", "b", "p", [0]), without="p")

    def test_no_part(self):
        self.check(("no part", "x"), without="x")

    def test_misfit(self):
        for row in ([], [0, 0], [100001], [-100001], (100001,)):
            self.check(("misfit", "q"), ("point", "a", "q", row))
        self.check(("misfit", "o"), ("point", "a", "o", [0, 0]), text="")
        for row in ([100000], [-100000], (0,)):
            self.check(None, ("point", "a", "q", row))

    def test_the_first_place_comes_first(self):
        # The places are: o, o to p, p, p with x, p to q with x, q with x, q, q to r, r.
        self.check(("no point", "o"), without="opqrx")
        self.check(("no point", "p"), without="pqrx")
        self.check(("no part", "x"), without="qrx")
        self.check(("no point", "q"), without="qr")
        self.check(("misfit", "o"), ("point", "a", "o", []), without="pqrx")
        self.check(("misfit", "p"), ("point", "a", "p", []), without="qrx")
        self.check(("no point", "p"), ("point", "a", "q", []), without="p")

    def test_of_one_place_the_points_come_first(self):
        # At the place of a move with a part all three can be missed at once: first point, last point, part.
        text = "if i { move p } else { take x } move q"
        self.check(("no point", "p"), text=text, without="pqx")
        self.check(("no part", "x"), text="take x move q", without="qx")
        self.check(("no point", "q"), text="if i { } else { move q take x } release", without="qx")

    def test_what_no_step_leads_to_is_not_missed(self):
        self.check(None, without="r", text="move p")
        self.check(None, without="qrx", text="routine z { move r take x } move p")

    def test_several_tasks(self):
        cell = filled(
            ("arm", "a", slide_arm()), ("arm", "b", slide_arm(500)), ("arm", "c", slide_arm(900)),
            *points("a", "o"), *points("c", "o"),
            ("task", "c", "o", ""), ("task", "d", "o", ""), ("task", "b", "o", ""), ("task", "a", "o", "take x"),
            ("task", "e", "o", "call r"),
        )
        self.assertEqual(cell.problems(), [
            ("d", ("no arm",)), ("b", ("no point", "o")), ("a", ("no part", "x")), ("e", ("no arm",)),
        ])
        self.assertEqual(cell.arms_in_order(), ["c"])
        cell.edit([("part", "x", PART), ("point", "b", "o", [0])])
        self.assertEqual(cell.problems(), [("d", ("no arm",)), ("e", ("no arm",))])
        self.assertEqual(cell.arms_in_order(), ["c", "b", "a"])

    def test_a_new_cell(self):
        cell = Cell()
        self.assertEqual((cell.problems(), cell.arms_in_order(), cell.questions), ([], [], []))


class TestQuestions(unittest.TestCase):
    def test_their_order(self):
        cell = filled(
            ("arm", "a", slide_arm()), ("arm", "b", slide_arm(500)), ("arm", "c", slide_arm(900)),
            *points("a", "o", "p"), *points("b", "o"), *points("c", "o", "p"), ("part", "x", PART),
            ("solid", "z", FLOOR), ("solid", "w", Block((0, 200, 0), (9, 200, 0), 5)),
            ("task", "b", "o", "take x"), ("task", "c", "o", "move p"), ("task", "a", "p", ""),
        )
        b, c, a = [rest("o"), rest("o", "x")], [rest("o"), way("o", "p"), rest("p")], [rest("p")]
        expected = []
        for arm, places in (("b", b), ("c", c), ("a", a)):
            for place in places:
                expected += [("solid", arm, place, "z"), ("solid", arm, place, "w"), ("self", arm, place)]
        expected += [("arms", "b", mine, "c", theirs) for mine in b for theirs in c]
        expected += [("arms", "b", mine, "a", theirs) for mine in b for theirs in a]
        expected += [("arms", "c", mine, "a", theirs) for mine in c for theirs in a]
        self.assertEqual(cell.questions, expected)
        self.assertIs(type(cell.questions), list)

    def test_tasks_that_cannot_be_looked_at_are_not_asked_about(self):
        edits = [("arm", "a", slide_arm()), ("arm", "b", slide_arm(500)), ("solid", "z", FLOOR)]
        cell = filled(*edits, *points("a", "o"), ("task", "b", "o", ""), ("task", "a", "o", ""))
        self.assertEqual(cell.questions, [("solid", "a", rest("o"), "z"), ("self", "a", rest("o"))])

    def test_nothing_to_ask(self):
        self.assertEqual(filled(("arm", "a", slide_arm()), ("solid", "z", FLOOR), *points("a", "o")).questions, [])

    def test_the_question_asks_about_the_mover_at_the_place(self):
        joints = [Joint(False, axis, ZERO, -1000, 1000) for axis in range(2)]
        arm = Arm(joints, [Capsule(1, ball(ZERO, 4))])
        edits = [
            ("arm", "a", arm), ("point", "a", "o", [0, 0]), ("point", "a", "p", [500, 0]),
            ("part", "x", [ball(ZERO, 7)]),
            ("task", "a", "o", "move p take x"),
        ]
        block = Block((500, 0, 0), (500, 0, 0), 0)
        cell = filled(*edits, ("solid", "z", block))
        told = [cell.verdict(("solid", "a", place, "z"))[0] for place in (rest("o"), way("o", "p"), rest("p"))]
        self.assertEqual(told, ["clear", "open", "meets"])
        # The part is held by the last link, which is where the second joint leads it.
        cell = filled(*edits, ("point", "a", "p", [500, 20]), ("solid", "z", Block((500, 30, 0), (500, 30, 0), 0)))
        told = [cell.verdict(("solid", "a", place, "z"))[0] for place in (rest("p"), rest("p", "x"))]
        self.assertEqual(told, ["clear", "clear"])
        cell.edit([("part", "x", [ball((0, 8, 0), 7)])])
        told = [cell.verdict(("solid", "a", place, "z"))[0] for place in (rest("p"), rest("p", "x"))]
        self.assertEqual(told, ["clear", "meets"])


if __name__ == "__main__":
    unittest.main()
