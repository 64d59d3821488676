"""Points [84] and [86]: the verdicts of a cell, and how many matters an edit judges."""
import random
import unittest

from things import ZERO, ball
from told_cell import Finder, filled, slide_arm, told_flow, told_matters, told_number, told_problem

from armwarrant.arms.arm import Arm, Capsule
from armwarrant.arms.joints import Joint
from armwarrant.cell.cell import Cell
from armwarrant.cell.places import places_of
from armwarrant.judge.solids import Block, Box, Wall
from armwarrant.programs.writing import write_program

FLOOR = Wall((0, 0, 1), -1000)
BLOCK = Block((0, 300, 0), (900, 300, 0), 50)
HERE, WAY, THERE = ("rest", "o", None), ("move", "o", "p", None), ("rest", "p", None)
# One arm that goes from o to p, beside a wall and a block.
ONE = [
    ("arm", "a", slide_arm()), ("point", "a", "o", [0]), ("point", "a", "p", [500]), ("task", "a", "o", "move p"),
    ("solid", "s", FLOOR), ("solid", "t", BLOCK),
]
# A second one that does the same elsewhere.
TWO = ONE + [
    ("arm", "b", slide_arm(-400)), ("point", "b", "o", [0]), ("point", "b", "p", [500]), ("task", "b", "o", "move p"),
]


def matters_of(cell):
    """Return the questions about the contents of a cell with their matters."""
    contents = cell.contents
    places = {}
    for arm, (start, program) in contents.tasks.items():
        flow = told_flow(program)
        found = None if flow is None else places_of(flow, start)
        if told_problem(contents, arm, found) is None:
            places[arm] = found
    return told_matters(contents, places)


class CellCase(unittest.TestCase):
    finder = Finder()

    def check_verdicts(self, cell):
        matters = matters_of(cell)
        self.assertEqual(cell.questions, list(matters))
        for question, matter in matters.items():
            told = cell.verdict(question)
            self.assertEqual(told, self.finder.told(matter, cell.contents.depth))
            self.assertIs(type(told), tuple)
        return matters

    def check_number(self, cell, change, number=None):
        """Check how many matters a change judges, and that the verdicts are those that they should be."""
        before, depth = list(matters_of(cell).values()), cell.contents.depth
        found = change()
        after = list(self.check_verdicts(cell).values())
        self.assertEqual(found, told_number(after, cell.contents.depth, before, depth))
        if number is not None:
            self.assertEqual(found, number)

    def check_edit(self, cell, number, *edits):
        self.check_number(cell, lambda: cell.edit(list(edits)), number)


class TestVerdicts(CellCase):
    def test_each_word(self):
        cell = filled(*ONE, ("solid", "u", Block((500, 0, 0), (500, 0, 0), 10)),
                      ("solid", "v", Block((521, 0, 0), (521, 0, 0), 10)))
        self.check_verdicts(cell)
        for name, words in (("t", ["clear"] * 3), ("u", ["clear", "meets", "meets"]), ("v", ["clear", "open", "open"])):
            told = [cell.verdict(("solid", "a", place, name))[0] for place in (HERE, WAY, THERE)]
            self.assertEqual(told, words)
        word, at = cell.verdict(("solid", "a", THERE, "u"))
        self.assertEqual((word, at), ("meets", ((0, 0), (0, 0))))
        word, tree = cell.verdict(("solid", "a", HERE, "u"))
        self.assertEqual((word, tree), ("clear", ("leaf", ((-500, 0, 0),))))

    def test_what_is_not_asked(self):
        cell = filled(*TWO)
        for question in (
            ("solid", "a", HERE, "z"), ("solid", "z", HERE, "s"), ("solid", "a", ("rest", "q", None), "s"),
            ("solid", "a", ("rest", "o", "x"), "s"), ("self", "a", ("move", "p", "o", None)), ("self", "z", HERE),
            ("arms", "b", HERE, "a", HERE), ("arms", "a", HERE, "a", THERE), ("arms", "a", HERE, "z", HERE),
            ("solid", "a", HERE), ("shape", "a", HERE, "s"), ("self", "a"), (),
        ):
            self.assertIsNone(cell.verdict(question))
        for question in (("self", "a", HERE), ("arms", "a", HERE, "b", THERE)):
            self.assertIsNotNone(cell.verdict(question))
            self.assertIsNone(Cell().verdict(question))
        cell.edit([("without", "task", "b")])
        self.assertIsNone(cell.verdict(("arms", "a", HERE, "b", THERE)))

    def test_the_depth_counts(self):
        edits = [
            ("arm", "a", slide_arm()), ("point", "a", "o", [-400]), ("point", "a", "p", [400]),
            ("task", "a", "o", "move p"), ("solid", "t", Block((0, 50, 0), (0, 50, 0), 10)),
        ]
        words = []
        for depth in range(7):
            cell = filled(*edits, ("depth", depth))
            self.check_verdicts(cell)
            words.append(cell.verdict(("solid", "a", WAY, "t"))[0])
        self.assertEqual(words, ["open"] * 4 + ["clear"] * 3)

    def test_two_arms(self):
        cell = filled(*TWO, ("arm", "b", slide_arm(0)))
        self.check_verdicts(cell)
        pairs = [(mine, theirs) for mine in (HERE, THERE) for theirs in (HERE, THERE)]
        words = [cell.verdict(("arms", "a", mine, "b", theirs))[0] for mine, theirs in pairs]
        self.assertEqual(words, ["meets", "clear", "clear", "meets"])


class TestNumbers(CellCase):
    def test_a_new_cell(self):
        cell = Cell()
        self.check_edit(cell, 0)
        self.check_edit(cell, 0, *[edit for edit in ONE if edit[0] != "task"])
        # Three places, each with two solids and itself.
        self.check_edit(cell, 9, ONE[3])

    def test_a_solid_more(self):
        cell = filled(*ONE)
        self.check_edit(cell, 3, ("solid", "u", Box((0, 0, 200), (1, 1, 200), 3)))
        self.check_edit(cell, 0, ("without", "solid", "s"))
        self.check_edit(cell, 3, ("solid", "s", FLOOR))

    def test_the_same_edit_twice(self):
        cell = filled(*TWO)
        self.check_edit(cell, 0, *TWO)
        self.check_edit(cell, 0, ("solid", "s", Wall((0, 0, 1), -1000)), ("arm", "a", slide_arm()))
        self.check_edit(cell, 0, ("depth", 6))

    def test_speeds_alone_changed(self):
        cell = filled(*TWO)
        self.check_edit(cell, 0, ("arm", "a", slide_arm(speed=7)))
        self.check_edit(cell, 0, ("arm", "a", slide_arm(speed=7, accel=8, brake=9)))
        self.check_edit(cell, 0, ("arm", "b", slide_arm(-400, brake=1000)))

    def test_each_other_value_of_a_joint(self):
        usual = dict(turns=False, axis=0, offset=ZERO, least=-1000, most=1000, box=0, error=0)
        rows = [("point", "a", "o", [0]), ("point", "a", "p", [500])]
        for field, value in (
            ("turns", True), ("axis", 1), ("offset", (0, 0, 1)), ("least", -1001), ("most", 1001),
            ("box", 1), ("error", 1),
        ):
            cell = filled(*ONE, *rows)
            capsules = [Capsule(1, ball(ZERO, 10))]
            cell.edit([("arm", "a", Arm([Joint(**usual)], capsules))])
            self.check_edit(cell, 9, ("arm", "a", Arm([Joint(**{**usual, field: value})], capsules)))
            self.check_edit(cell, 9, ("arm", "a", Arm([Joint(**usual)], capsules)))

    def test_capsules(self):
        cell = filled(*ONE)
        joints = slide_arm().joints
        for capsules in (
            [Capsule(1, ball(ZERO, 11))], [Capsule(0, ball(ZERO, 11))], [Capsule(0, ball((0, 0, 1), 11))], [],
            [Capsule(1, ball(ZERO, 10)), Capsule(0, ball(ZERO, 10))],
            [Capsule(0, ball(ZERO, 10)), Capsule(1, ball(ZERO, 10))],
        ):
            self.check_edit(cell, 9, ("arm", "a", Arm(joints, capsules)))

    def test_a_row_of_values(self):
        cell = filled(*TWO)
        # Two places with two solids and themselves, and with three places of the other arm.
        self.check_edit(cell, 12, ("point", "a", "p", [501]))
        self.check_edit(cell, 12, ("point", "b", "p", [501]))
        self.check_edit(cell, 0, ("point", "b", "q", [501]))

    def test_held_bodies(self):
        part = ("part", "x", [ball((0, 0, 20), 5)])
        cell = filled(*ONE, part)
        # Two more places: the rest with the part, and the way with it; the arm's end is another one.
        self.check_edit(cell, 9, ("task", "a", "o", "take x move p"))
        self.check_edit(cell, 9, ("part", "x", [ball((0, 0, 20), 6)]))
        self.check_edit(cell, 9, ("part", "x", [ball((0, 0, 20), 6)] * 2))
        # Two parts with equal bodies make equal matters.
        self.check_edit(cell, 0, ("part", "y", [ball((0, 0, 20), 6)] * 2), ("task", "a", "o", "take y move p"))

    def test_a_held_body_and_a_capsule_are_not_the_same(self):
        body = ball((0, 0, 20), 5)
        joints = slide_arm().joints
        bare, full = Arm(joints, []), Arm(joints, [Capsule(1, body)])
        cell = filled(("arm", "a", bare), ("point", "a", "o", [0]), ("part", "x", [body]), ("task", "a", "o", "take x"))
        self.check_edit(cell, 1, ("arm", "a", full), ("task", "a", "o", ""))

    def test_the_pairs_that_may_touch(self):
        joints = [Joint(False, axis, ZERO, -1000, 1000) for axis in range(2)]
        capsules = [Capsule(0, ball(ZERO, 5)), Capsule(2, ball(ZERO, 5))]
        edits = [("point", "a", "o", [0, 0]), ("point", "a", "p", [100, 0]), ("task", "a", "o", "move p"),
                 ("solid", "s", FLOOR)]
        cell = filled(("arm", "a", Arm(joints, capsules)), *edits)
        self.assertEqual(cell.verdict(("self", "a", HERE))[0], "meets")
        self.check_edit(cell, 3, ("arm", "a", Arm(joints, capsules, beside=[(0, 1)])))
        self.assertEqual(cell.verdict(("self", "a", HERE))[0], "clear")
        self.check_edit(cell, 3, ("arm", "a", Arm(joints, capsules)))

    def test_solids(self):
        cell = filled(*ONE)
        same = (0, 100, 0), (0, 100, 50)
        for solid in (
            Block(*same, 5), Box(*same, 5), Block(*same, 6), Block(same[0], (0, 100, 51), 6), Box(*same, 6),
            Wall((0, 0, 1), -999), Wall((0, 1, 0), -999), Wall((0, 2, 0), -999),
        ):
            self.check_edit(cell, 3, ("solid", "t", solid))
        # Solids that are equal count once.
        self.check_edit(cell, 0, ("solid", "u", Wall((0, 2, 0), -999)))
        self.check_edit(cell, 3, ("solid", "t", BLOCK), ("solid", "u", BLOCK))

    def test_matters_that_are_equal_count_once(self):
        # Both arms are alike, and so are a rest and a way from a point to itself, and two points with one row.
        edits = ONE + [("point", "a", "q", [0]), ("task", "a", "o", "move o move q move p")]
        cell = Cell()
        # The movers are: at o, from o to p, and at p.
        self.check_edit(cell, 9, *edits)
        other = [(edit[0], "b") + edit[2:] for edit in edits if edit[0] not in ("solid",)]
        # Each mover of the one with each mover of the other one.
        self.check_edit(cell, 9, *other)

    def test_the_order_of_two_movers_counts(self):
        cell = filled(*TWO)
        # The other task comes first now, so all is asked the other way round.
        self.check_edit(cell, 9, ("without", "task", "a"), ONE[3])

    def test_names_do_not_count(self):
        cell = filled(*ONE)
        renamed = [(edit[0], "c") + edit[2:] for edit in ONE if edit[0] in ("arm", "point", "task")]
        self.check_edit(cell, 0, *renamed, ("without", "arm", "a"), ("without", "task", "a"))

    def test_another_depth(self):
        cell = filled(*TWO)
        self.check_edit(cell, 27, ("depth", 5))
        self.check_edit(cell, 0, ("depth", 5))
        self.check_edit(cell, 0, ("depth", 3), ("depth", 5))
        self.check_number(cell, cell.undo, 0)
        self.check_number(cell, cell.undo, 0)
        self.check_number(cell, cell.undo, 27)
        self.check_number(cell, cell.redo, 27)

    def test_an_edit_that_is_taken_back_and_made_again(self):
        cell = filled(*ONE)
        self.check_edit(cell, 3, ("solid", "u", Box(ZERO, ZERO, 1)))
        self.check_number(cell, cell.undo, 0)
        self.check_number(cell, cell.redo, 3)
        self.check_edit(cell, 0, ("without", "solid", "u"))
        self.check_number(cell, cell.undo, 3)
        self.check_number(cell, cell.undo, 0)
        # All is gone, and asked anew.
        self.check_number(cell, cell.undo, 0)
        self.assertEqual(cell.questions, [])
        self.check_number(cell, cell.redo, 9)

    def test_only_what_was_asked_just_before_is_kept(self):
        cell = filled(*ONE)
        self.check_edit(cell, 0, ("without", "task", "a"))
        self.check_edit(cell, 9, ONE[3])
        self.check_edit(cell, 0, ("without", "arm", "a"))
        self.check_edit(cell, 9, ONE[0])
        # Taken away and put back at once, it was there just before.
        self.check_edit(cell, 0, ("without", "task", "a"), ONE[3])

    def test_matters_of_another_kind_are_others(self):
        # The same numbers, once asked about a solid and once about two arms, are not confused.
        cell = filled(*ONE)
        self.check_edit(cell, 18, *TWO[6:])

    def test_edits_that_are_refused(self):
        cell = filled(*ONE)
        for edits in ([("without", "task", "a"), ("depth", 99)], [("without", "task", "z")]):
            with self.assertRaises(ValueError):
                cell.edit(edits)
        self.check_edit(cell, 0)


class TestDrawnEdits(CellCase):
    TEXTS = (
        "", "move p", "move p move o", "take x move p release", "if i { move p } else { move q }",
        "move q take y move p",
        "routine r { move o } if i { call r } call r", "call nowhere", "move o", "take x if i { take y } move q",
    )

    def drawn(self, chance):
        arms = [
            slide_arm(), slide_arm(speed=9), slide_arm(60), slide_arm(60, radius=25), slide_arm(0, error=3),
            Arm([Joint(False, 0, ZERO, -900, 900), Joint(True, 2, (0, 40, 0), -1000000, 1000000)],
                [Capsule(0, ball(ZERO, 3)), Capsule(2, ball((90, 0, 0), 9))],
                beside=chance.choice(((), ((0, 1),)))),
        ]
        solids = [
            FLOOR, BLOCK, Block((0, 30, 0), (0, 30, 0), 9), Box((250, -5, 0), (300, 5, 5), 4), Wall((1, 0, 0), -300),
        ]
        name = chance.choice("ab")
        kind = chance.randrange(10)
        if kind == 0:
            return ("depth", chance.choice((2, 3)))
        if kind == 1:
            return ("arm", name, chance.choice(arms))
        if kind in (2, 3):
            row = [chance.choice((0, 0, 200, -200))] * chance.choice((1, 1, 1, 2))
            return ("point", name, chance.choice("opq"), row)
        if kind == 4:
            return ("solid", chance.choice("stu"), chance.choice(solids))
        if kind == 5:
            return ("part", chance.choice("xy"), [ball((0, chance.choice((0, 20)), 0), 8)] * chance.choice((1, 2)))
        if kind in (6, 7):
            return ("task", name, chance.choice("oop"), chance.choice(self.TEXTS))
        without = chance.choice((("arm", name), ("point", name, chance.choice("opq")), ("task", name), ("solid", "s")))
        return ("without",) + without

    def test_many_edits(self):
        chance = random.Random(86)
        judged = questions = 0
        for _ in range(14):
            cell = filled(
                *TWO, ("arm", "b", slide_arm(60)), ("part", "x", [ball(ZERO, 8)]), ("part", "y", [ball(ZERO, 9)]),
                ("point", "a", "q", [200]), ("point", "b", "q", [-200]), ("depth", 3),
            )
            for _ in range(40):
                word = chance.choice(("edit", "edit", "edit", "undo", "redo"))
                before, depth = list(matters_of(cell).values()), cell.contents.depth
                if word == "edit":
                    try:
                        number = cell.edit([self.drawn(chance) for _ in range(chance.choice((0, 1, 1, 2, 3)))])
                    except ValueError:
                        number = 0
                else:
                    number = (cell.undo() if word == "undo" else cell.redo()) or 0
                after = list(self.check_verdicts(cell).values())
                self.assertEqual(number, told_number(after, cell.contents.depth, before, depth))
                judged += number
                questions += len(after)
        self.assertGreater(judged, 300)
        self.assertGreater(questions, 1000)

    def test_a_new_cell_with_the_same_contents(self):
        chance = random.Random(87)
        cell = filled(*TWO)
        for _ in range(30):
            try:
                cell.edit([self.drawn(chance)])
            except ValueError:
                continue
            contents = cell.contents
            other = filled(
                ("depth", contents.depth), *[("arm", name, arm) for name, arm in contents.arms.items()],
                *[("solid", name, solid) for name, solid in contents.solids.items()],
                *[("part", name, list(bodies)) for name, bodies in contents.parts.items()],
                *[("point", arm, name, row) for (arm, name), row in contents.points.items()],
            )
            other.edit([("task", arm, start, write_program(program)) for arm, (start,
                program) in contents.tasks.items()])
            self.assertEqual(other.questions, cell.questions)
            self.assertEqual([other.verdict(q) for q in cell.questions], [cell.verdict(q) for q in cell.questions])
            self.assertEqual((other.problems(), other.flaws()), (cell.problems(), cell.flaws()))


if __name__ == "__main__":
    unittest.main()
