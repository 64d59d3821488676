"""Points [78] to [81]: the contents of a cell, edits, undo and redo."""
import unittest

from things import ZERO, ball
from told_cell import filled, slide_arm

from armwarrant.cell.cell import Cell
from armwarrant.errors import ArmwarrantError, InvalidEdit, InvalidProgram
from armwarrant.judge.solids import Block, Box, Wall
from armwarrant.programs.program import Program
from armwarrant.programs.reading import read_program

ARM, OTHER = slide_arm(), slide_arm(500)
FLOOR, BLOCK, BOX = Wall((0, 0, 1), -1000), Block(ZERO, ZERO, 1), Box(ZERO, ZERO, 1)
BODY = ball(ZERO, 5)
FULL = [
    ("arm", "a", ARM), ("arm", "b", OTHER), ("solid", "s", FLOOR), ("solid", "t", BLOCK), ("part", "x", [BODY]),
    ("part", "y", [BODY, BODY]), ("point", "a", "o", [0]), ("point", "a", "p", (100,)), ("point", "b", "o", [0]),
    ("task", "a", "o", "move p"), ("task", "b", "o", ""), ("depth", 4),
]
NO_NAMES = ["", "9", "_a", "A", "aB", "a b", "a-b", "b" * 21, "move", "on", "else", "routine", "a\n", "{"]


def shown(cell):
    """Return all things of a cell, in their order, and its depth."""
    contents = cell.contents
    return (
        list(contents.arms.items()), list(contents.solids.items()), list(contents.parts.items()),
        list(contents.points.items()), list(contents.tasks.items()), contents.depth,
    )


def questions_and_verdicts(cell):
    return [(question, cell.verdict(question)) for question in cell.questions]


class EditCase(unittest.TestCase):
    def check_refused(self, cell, edits, at):
        """Check that the edit with this index cannot be made, and that nothing is changed."""
        before, told = shown(cell), questions_and_verdicts(cell)
        with self.subTest(edits=str(edits)[:200]):
            with self.assertRaises(InvalidEdit) as caught:
                cell.edit(edits)
            self.assertEqual(caught.exception.at, at)
            self.assertIsInstance(caught.exception, ArmwarrantError)
            self.assertEqual((shown(cell), questions_and_verdicts(cell)), (before, told))


class TestContents(EditCase):
    def test_a_new_cell(self):
        cell = Cell()
        self.assertEqual(shown(cell), ([], [], [], [], [], 6))
        self.assertEqual(cell.questions, [])

    def test_each_kind(self):
        cell = filled(*FULL)
        self.assertEqual(shown(cell), (
            [("a", ARM), ("b", OTHER)], [("s", FLOOR), ("t", BLOCK)], [("x", (BODY,)), ("y", (BODY, BODY))],
            [(("a", "o"), (0,)), (("a", "p"), (100,)), (("b", "o"), (0,))],
            [("a", ("o", read_program("move p"))), ("b", ("o", Program([], [])))], 4,
        ))
        for things in (cell.contents.parts, cell.contents.points, cell.contents.tasks):
            self.assertTrue(all(type(thing) is tuple for thing in things.values()))

    def test_things_without_those_that_they_need(self):
        cell = filled(("point", "a", "o", [0, 0, 0]), ("task", "b", "z", "call nowhere take y"))
        self.assertEqual(cell.contents.points, {("a", "o"): (0, 0, 0)})
        self.assertEqual(list(cell.contents.tasks), ["b"])

    def test_equal_names_of_different_kinds(self):
        cell = filled(
            ("arm", "a", ARM), ("solid", "a", BOX), ("part", "a", [BODY]), ("point", "a", "a", [0]),
            ("task", "a", "a", ""),
        )
        self.assertEqual(cell.problems(), [])
        cell.edit([("without", "solid", "a")])
        self.assertEqual([len(things) for things in shown(cell)[:5]], [1, 0, 1, 1, 1])

    def test_a_thing_takes_the_place_of_the_one_that_is_named_so(self):
        cell = filled(*FULL)
        cell.edit([
            ("arm", "a", OTHER), ("solid", "s", BOX), ("part", "x", [BODY] * 3), ("point", "a", "o", [7]),
            ("task", "a", "p", "release"),
        ])
        self.assertEqual(shown(cell), (
            [("a", OTHER), ("b", OTHER)], [("s", BOX), ("t", BLOCK)], [("x", (BODY,) * 3), ("y", (BODY, BODY))],
            [(("a", "o"), (7,)), (("a", "p"), (100,)), (("b", "o"), (0,))],
            [("a", ("p", read_program("release"))), ("b", ("o", Program([], [])))], 4,
        ))

    def test_others_stand_behind_all(self):
        cell = filled(*FULL)
        cell.edit([
            ("arm", "aa", ARM), ("solid", "r", BOX), ("part", "a", [BODY]), ("point", "a", "b", [7]),
            ("point", "b", "a", []),
            ("task", "aa", "p", ""),
        ])
        names = [[name for name, _ in things] for things in shown(cell)[:5]]
        self.assertEqual(names, [
            ["a", "b", "aa"], ["s", "t", "r"], ["x", "y", "a"],
            [("a", "o"), ("a", "p"), ("b", "o"), ("a", "b"), ("b", "a")], ["a", "b", "aa"],
        ])

    def test_without(self):
        cell = filled(*FULL)
        cell.edit([
            ("without", "arm", "a"), ("without", "solid", "t"), ("without", "part", "x"),
            ("without", "point", "a", "o"),
            ("without", "task", "b"),
        ])
        self.assertEqual(shown(cell), (
            [("b", OTHER)], [("s", FLOOR)], [("y", (BODY, BODY))], [(("a", "p"), (100,)), (("b", "o"), (0,))],
            [("a", ("o", read_program("move p")))], 4,
        ))
        cell.edit([("arm", "a", ARM)])
        self.assertEqual(list(cell.contents.arms), ["b", "a"])

    def test_one_after_another(self):
        cell = Cell()
        cell.edit([("solid", "s", FLOOR), ("solid", "t", BOX), ("without", "solid", "s"), ("solid", "s", BLOCK),
                   ("depth", 1),
                   ("depth", 2)])
        self.assertEqual(shown(cell)[1], [("t", BOX), ("s", BLOCK)])
        self.assertEqual(cell.contents.depth, 2)

    def test_no_edits(self):
        cell = filled(*FULL)
        before = shown(cell)
        self.assertEqual(cell.edit([]), 0)
        self.assertEqual(shown(cell), before)
        self.assertEqual(Cell().edit([]), 0)

    def test_later_changes_of_the_arguments_have_no_effect(self):
        cell = Cell()
        bodies, row = [BODY], [5]
        edits = [("part", "x", bodies), ("point", "a", "o", row)]
        cell.edit(edits)
        bodies.append(BODY)
        row[0] = 6
        edits.clear()
        self.assertEqual((cell.contents.parts, cell.contents.points), ({"x": (BODY,)}, {("a", "o"): (5,)}))

    def test_the_arguments_stay_as_they_are(self):
        edits = list(FULL)
        Cell().edit(edits)
        self.assertEqual(edits, FULL)


class TestRefused(EditCase):
    def test_no_names(self):
        cell = filled(*FULL)
        for name in NO_NAMES:
            for edit in (
                ("arm", name, ARM), ("solid", name, FLOOR), ("part", name, [BODY]), ("point", name, "o", [0]),
                ("point", "a", name, [0]), ("task", name, "o", ""), ("task", "a", name, ""), ("without", "arm", name),
                ("without", "solid", name), ("without", "part", name), ("without", "point", name, "o"),
                ("without", "point", "a", name), ("without", "task", name),
            ):
                self.check_refused(cell, [edit], 0)

    def test_names_that_are_long_enough(self):
        name = "z" * 20
        cell = filled(("arm", name, ARM), ("point", name, name, [0]), ("task", name, name, ""))
        self.assertEqual(cell.arms_in_order(), [name])

    def test_parts(self):
        cell = filled(*FULL)
        for many in (0, 5, 6):
            self.check_refused(cell, [("part", "x", [BODY] * many)], 0)
            self.check_refused(cell, [("part", "z", [BODY] * many)], 0)
        for many in (1, 4):
            cell.edit([("part", "x", [BODY] * many)])
            self.assertEqual(len(cell.contents.parts["x"]), many)

    def test_depths(self):
        cell = filled(*FULL)
        for depth in (-1, -5, 13, 20):
            self.check_refused(cell, [("depth", depth)], 0)
        for depth in (0, 12):
            cell.edit([("depth", depth)])
            self.assertEqual(cell.contents.depth, depth)

    def test_things_that_are_not_there(self):
        cell = filled(*FULL)
        for edit in (
            ("without", "arm", "c"), ("without", "arm", "s"), ("without", "solid", "a"), ("without", "part", "a"),
            ("without", "point", "a", "q"), ("without", "point", "b", "p"), ("without", "point", "o", "a"),
            ("without", "task", "c"),
        ):
            self.check_refused(cell, [edit], 0)
        self.check_refused(cell, [("without", "arm", "a"), ("without", "arm", "a")], 1)
        self.check_refused(Cell(), [("without", "task", "a")], 0)

    def test_too_much(self):
        for most, make in (
            (4, lambda at: ("arm", f"n{at}", ARM)), (12, lambda at: ("solid", f"n{at}", FLOOR)),
            (6, lambda at: ("part", f"n{at}", [BODY])), (40, lambda at: ("point", f"m{at // 5}", f"n{at % 5}", [0])),
        ):
            cell = Cell()
            self.check_refused(cell, [make(at) for at in range(most + 1)], most)
            cell.edit([make(at) for at in range(most)])
            self.check_refused(cell, [make(most)], 0)
            # What takes the place of another one is not too much.
            cell.edit([make(0)])
            # Behind each of the edits there must not be too much.
            without = ("without",) + make(0)[:-1]
            self.check_refused(cell, [make(most), without], 0)
            cell.edit([without, make(most)])
            self.check_refused(cell, [make(0)], 0)

    def test_tasks_have_no_bound(self):
        cell = filled(*[("task", f"n{at}", "o", "") for at in range(50)])
        self.assertEqual(len(cell.contents.tasks), 50)

    def test_the_first_one_is_told(self):
        cell = filled(*FULL)
        self.check_refused(cell, [("depth", 5), ("solid", "z", BOX), ("depth", 13), ("depth", -1)], 2)
        self.check_refused(cell, [("solid", "z", BOX), ("without", "solid", "y"), ("arm", "9", ARM)], 1)
        self.check_refused(cell, [("arm", "9", ARM), ("without", "solid", "y")], 0)

    def test_texts_that_are_no_programs(self):
        cell = filled(*FULL)
        before, told = shown(cell), questions_and_verdicts(cell)
        for edits, line, column, expected in (
            ([("task", "a", "o", "move")], 1, 1, "a name behind this word"),
            ([("depth", 5), ("task", "a", "o", "\n  go")], 2, 3, "a statement or a routine"),
            # The first text that is no program is told, ahead of each edit that cannot be made.
            ([("depth", 99), ("task", "9", "9", "take 9"), ("task", "a", "o", "go")], 1, 6, "a name"),
            ([("without", "task", "z"), ("task", "a", "o", ""), ("task", "a", "o", " }")], 1, 2,
                "a statement or a routine"),
        ):
            with self.assertRaises(InvalidProgram) as caught:
                cell.edit(edits)
            error = caught.exception
            self.assertEqual((error.line, error.column, error.expected), (line, column, expected))
            self.assertEqual((shown(cell), questions_and_verdicts(cell)), (before, told))


class TestUndo(EditCase):
    def test_nothing_to_take_back_or_to_make_again(self):
        cell = Cell()
        self.assertIsNone(cell.undo())
        self.assertIsNone(cell.redo())
        cell.edit(FULL)
        before = shown(cell)
        self.assertIsNone(cell.redo())
        self.assertEqual(shown(cell), before)
        cell.undo()
        self.assertIsNone(cell.undo())
        self.assertEqual(shown(cell), shown(Cell()))
        cell.redo()
        self.assertIsNone(cell.redo())
        self.assertEqual(shown(cell), before)

    def test_several_in_turn(self):
        cell = Cell()
        steps = [FULL, [("depth", 5)], [("without", "arm", "a"), ("arm", "c", ARM)], [("solid", "s", BOX)],
                 [("arm", "a", ARM)]]
        states = [(shown(cell), questions_and_verdicts(cell))]
        for edits in steps:
            cell.edit(edits)
            states.append((shown(cell), questions_and_verdicts(cell)))
        at = 5
        for word in ("undo", "undo", "redo", "undo", "undo", "undo", "redo", "redo", "redo", "redo", "undo", "undo"):
            at += 1 if word == "redo" else -1
            self.assertIsNotNone(cell.undo() if word == "undo" else cell.redo())
            self.assertEqual((shown(cell), questions_and_verdicts(cell)), states[at])

    def test_an_edit_behind_an_undo(self):
        cell = filled(*FULL)
        cell.edit([("depth", 5)])
        cell.undo()
        cell.edit([("depth", 7)])
        self.assertIsNone(cell.redo())
        self.assertEqual(cell.contents.depth, 7)
        cell.undo()
        self.assertEqual(cell.contents.depth, 4)
        cell.redo()
        self.assertEqual(cell.contents.depth, 7)

    def test_edits_that_are_refused_are_not_taken_back(self):
        cell = filled(*FULL)
        cell.edit([("depth", 5)])
        cell.undo()
        self.check_refused(cell, [("depth", 99)], 0)
        with self.assertRaises(InvalidProgram):
            cell.edit([("task", "a", "o", "go")])
        # What was taken back is not forgotten.
        self.assertIsNotNone(cell.redo())
        self.assertEqual(cell.contents.depth, 5)
        self.check_refused(cell, [("depth", 99)], 0)
        cell.undo()
        self.assertEqual(cell.contents.depth, 4)

    def test_no_edits_are_taken_back_like_others(self):
        cell = filled(*FULL)
        before = shown(cell)
        cell.edit([])
        self.assertEqual(cell.undo(), 0)
        self.assertEqual(shown(cell), before)
        self.assertEqual(cell.redo(), 0)
        self.assertEqual(shown(cell), before)


if __name__ == "__main__":
    unittest.main()
