"""Points [88] to [93]: cells and warrants as texts, and which warrants hold."""
import random
import unittest

from things import ZERO, ball
from told_cell import filled, slide_arm

from armwarrant.arms.arm import Arm, Body, Capsule
from armwarrant.arms.joints import Joint
from armwarrant.cell.cell import Cell
from armwarrant.errors import ArmwarrantError, InvalidPaper, NotReady, NotSafe
from armwarrant.judge.solids import Block, Box, Wall
from armwarrant.papers.cells import read_contents, write_contents
from armwarrant.papers.warrants import is_warrant, write_warrant
from armwarrant.programs.reading import read_program

CELL, WARRANT = "armwarrant cell", "armwarrant warrant"
CHARACTERS = "\n abcdefghijklmnopqrstuvwxyz0123456789_{}"
JOINT = "0 0 0 0 0 -9 9 0 0 1 1 1"
ARM = f"1 {JOINT} 0 0"
BODY = "0 0 0 0 0 0 5"


def text_of(head, numbers):
    return f"{head}\n{numbers}\n"


def string(word):
    """Return the integers of a string."""
    return " ".join([str(len(word))] + [str(CHARACTERS.index(letter)) for letter in word])


def plain_arm():
    return Arm([Joint(False, 0, ZERO, -9, 9)], [])


def shown(thing):
    """Return all values of a thing."""
    if isinstance(thing, (list, tuple)):
        return [type(thing).__name__] + [shown(member) for member in thing]
    if isinstance(thing, dict):
        return [(key, shown(value)) for key, value in thing.items()]
    if hasattr(thing, "__dict__"):
        return [type(thing).__name__, {name: shown(value) for name, value in vars(thing).items()}]
    return thing


class ContentsCase(unittest.TestCase):
    def check(self, numbers, *edits):
        """Check the text of the contents of a cell, and what is read from it."""
        contents = filled(*edits).contents
        with self.subTest(numbers):
            self.assertEqual(write_contents(contents), text_of(CELL, numbers))
            found = read_contents(text_of(CELL, numbers))
            for field in ("arms", "solids", "parts", "points", "tasks", "depth"):
                self.assertEqual(shown(getattr(found, field)), shown(getattr(contents, field)))
            self.assertEqual(write_contents(found), text_of(CELL, numbers))

    def check_no_paper(self, *texts):
        for text in texts:
            for call, head in ((read_contents, CELL), (is_warrant, WARRANT)):
                with self.subTest(text=text[:300], call=call.__name__):
                    with self.assertRaises(InvalidPaper) as caught:
                        call(text.replace(CELL, head))
                    self.assertIsInstance(caught.exception, ArmwarrantError)

    def check_no_contents(self, *rows):
        self.check_no_paper(*[text_of(CELL, row) for row in rows])


class TestContents(ContentsCase):
    def test_a_new_cell(self):
        self.check("6 0 0 0 0 0")

    def test_depths(self):
        for depth in (0, 5, 12):
            self.check(f"{depth} 0 0 0 0 0", ("depth", depth))
        for depth in (-1, 13, 20):
            self.check_no_contents(f"{depth} 0 0 0 0 0")

    def test_arms(self):
        self.check(f"6 1 1 2 {ARM} 0 0 0 0", ("arm", "a", plain_arm()))
        full = Arm(
            [Joint(True, 1, (1, -2, 3), -4, 5, box=6, error=7, speed=8, accel=9, brake=10)],
            [Capsule(0, Body((1, 2, 3), (4, 5, 6), 7)), Capsule(1, Body((8, 9, 10), (11, 12, -13), 14))],
            beside=[(0, 1)],
        )
        numbers = "1 1 1 1 -2 3 -4 5 6 7 8 9 10 2 0 1 2 3 4 5 6 7 1 8 9 10 11 12 -13 14 1 0 1"
        self.check(f"6 2 {string('z_9')} {numbers} {string('a')} {ARM} 0 0 0 0",
                   ("arm", "z_9", full), ("arm", "a", plain_arm()))

    def test_solids(self):
        self.check(
            f"6 0 3 {string('w')} 2 1 -2 3 -4 {string('b')} 0 1 2 3 4 5 6 7 {string('a')} 1 1 2 3 4 5 6 7 0 0 0",
            ("solid", "w", Wall((1, -2, 3), -4)), ("solid", "b", Block((1, 2, 3), (4, 5, 6), 7)),
            ("solid", "a", Box((1, 2, 3), (4, 5, 6), 7)),
        )

    def test_parts(self):
        self.check(
            f"6 0 0 2 {string('y')} 1 1 2 3 1 2 3 4 {string('x')} 2 {BODY} {BODY} 0 0",
            ("part", "y", [ball((1, 2, 3), 4)]), ("part", "x", [ball(ZERO, 5), ball(ZERO, 5)]),
        )

    def test_points(self):
        self.check(
            f"6 0 0 0 4 {string('b')} {string('a')} 2 -7 8 {string('a')} {string('b')} 0 "
            f"{string('b')} {string('b')} 1 9 {string('a')} {string('a')} 8 1 2 3 4 5 6 7 8 0",
            ("point", "b", "a", [-7, 8]), ("point", "a", "b", []), ("point", "b", "b", [9]),
            ("point", "a", "a", [1, 2, 3, 4, 5, 6, 7, 8]),
        )

    def test_tasks(self):
        text = "routine r {\n  move p\n}\nif i {\n} else {\n  call r\n}\n"
        self.check(
            f"6 0 0 0 0 2 {string('b')} {string('oo')} 0 {string('a')} {string('o')} {string(text)}",
            ("task", "b", "oo", ""), ("task", "a", "o", "routine r{move p}if i{}else{call r}"),
        )

    def test_every_character(self):
        self.assertEqual(len(CHARACTERS), 41)
        text = "take abcdefghijklm\ntake nopqrstuvwxyz\ntake a0123456789_\nrepeat 2 {\n}\n"
        self.assertEqual(set(text), set(CHARACTERS))
        self.check(f"6 0 0 0 0 1 1 2 1 2 {string(text)}", ("task", "a", "a", text))

    def test_long_programs(self):
        text = "move " + "p" * 20 + "\n"
        edit = ("task", "a", "o", text * 70)
        self.check(f"6 0 0 0 0 1 1 2 {string('o')} {string(text * 70)}", edit)
        braces = "repeat 9{" * 7 + "release " * 200 + "}" * 7
        cell = filled(("task", "a", "o", braces))
        self.assertGreater(len(write_contents(cell.contents)), 2000)
        self.assertEqual(read_contents(write_contents(cell.contents)).tasks["a"], ("o", read_program(braces)))

    def test_as_much_as_there_may_be(self):
        edits = [("arm", f"a{at}", plain_arm()) for at in range(4)]
        edits += [("solid", f"a{at}", Wall((0, 0, 1), 0)) for at in range(12)]
        edits += [("part", f"a{at}", [ball(ZERO, 5)] * 4) for at in range(6)]
        edits += [("point", f"a{at // 10}", f"a{at}", [0]) for at in range(40)]
        edits += [("task", f"a{at}", "o", "") for at in range(20)]
        contents = filled(*edits).contents
        self.assertEqual(write_contents(read_contents(write_contents(contents))), write_contents(contents))

    def test_too_much(self):
        for before, number, make, behind in (
            ("6", 4, lambda at: string(f"a{at}") + f" {ARM}", "0 0 0 0"),
            ("6 0", 12, lambda at: string(f"a{at}") + " 2 0 0 1 0", "0 0 0"),
            ("6 0 0", 6, lambda at: string(f"a{at}") + f" 1 {BODY}", "0 0"),
            ("6 0 0 0", 40, lambda at: string(f"a{at}") + " " + string("o") + " 1 0", "0"),
        ):
            for many in (number, number + 1):
                row = " ".join([before, str(many)] + [make(at) for at in range(many)] + [behind])
                if many == number:
                    read_contents(text_of(CELL, row))
                else:
                    self.check_no_contents(row)

    def test_sizes_of_parts(self):
        for many in (1, 4):
            read_contents(text_of(CELL, f"6 0 0 1 1 2 {many} {' '.join([BODY] * many)} 0 0"))
        for many in (0, 5):
            self.check_no_contents(f"6 0 0 1 1 2 {' '.join([str(many)] + [BODY] * many)} 0 0")

    def test_names_that_stand_twice(self):
        for row in (
            f"6 2 1 2 {ARM} 1 2 {ARM} 0 0 0 0", "6 0 2 1 2 2 0 0 1 0 1 2 2 0 0 1 0 0 0 0",
            f"6 0 0 2 1 2 1 {BODY} 1 2 1 {BODY} 0 0",
            "6 0 0 0 2 1 2 1 3 0 1 2 1 3 1 5 0", "6 0 0 0 0 2 1 2 1 2 0 1 2 1 3 0",
            # Four arms, one of which stands twice, are not too many.
            f"6 5 1 2 {ARM} 1 3 {ARM} 1 4 {ARM} 1 5 {ARM} 1 2 {ARM} 0 0 0 0",
        ):
            self.check_no_contents(row)

    def test_words_that_are_no_names(self):
        for word in ("", "9", "_a", "a b", "a\n", "a{", "move", "on", "routine", "else", "b" * 21):
            name = string(word)
            self.check_no_contents(
                f"6 1 {name} {ARM} 0 0 0 0", f"6 0 1 {name} 2 0 0 1 0 0 0 0", f"6 0 0 1 {name} 1 {BODY} 0 0",
                f"6 0 0 0 1 {name} 1 2 0 0", f"6 0 0 0 1 1 2 {name} 0 0", f"6 0 0 0 0 1 {name} 1 2 0",
                f"6 0 0 0 0 1 1 2 {name} 0",
            )
        name = string("b" * 20)
        read_contents(text_of(CELL, f"6 0 0 0 1 {name} {name} 0 1 {name} {name} 0"))

    def test_characters_that_are_none(self):
        for number in ("-1", "41", "999"):
            self.check_no_contents(f"6 1 1 {number} {ARM} 0 0 0 0", f"6 0 0 0 0 1 1 2 1 2 1 {number}")

    def test_programs_that_are_written_otherwise(self):
        for good, others in (
            ("", (" ", "\n", "  \n")),
            ("move p\n", ("move p", "move  p\n", " move p\n", "move p \n", "move p\n\n", "\nmove p\n", "move\np\n")),
            ("move p\nrelease\n", ("move p release\n", "move p\n  release\n")),
            ("if i {\n  move p\n}\n", (
                "if i {\nmove p\n}\n", "if i {\n  move p\n} else {\n}\n", "if i{\n  move p\n}\n",
                "if i {\n  move p }\n",
                "if i {\n    move p\n}\n", "if i {\n  move p\n  }\n", "if i\n{\n  move p\n}\n",
            )),
            ("if i {\n} else {\n  move p\n}\n", ("if i {\n}\nelse {\n  move p\n}\n", "if i { } else {\n  move p\n}\n")),
            ("routine r {\n}\n", ("routine r { }\n", "routine r {}\n", "routine r {\n\n}\n")),
            # These are no programs at all.
            ("", ("move\n", "go p\n", "}\n", "repeat 0 {\n}\n", "routine r {\n}\nroutine r {\n}\n", "if i {\n")),
        ):
            row = "6 0 0 0 0 1 1 2 1 2 {}"
            read_contents(text_of(CELL, row.format(string(good))))
            self.check_no_contents(*[row.format(string(other)) for other in others])

    def test_things_that_cannot_be_made(self):
        self.check_no_contents(
            "6 1 1 2 0 0 0 0 0 0 0", "6 1 1 2 1 0 3 0 0 0 -9 9 0 0 1 1 1 0 0 0 0 0 0",
            f"6 1 1 2 1 {JOINT} 1 2 {BODY} 0 0 0 0 0", "6 0 1 1 2 2 0 0 0 0 0 0 0", "6 0 1 1 2 0 0 0 0 0 0 0 -1 0 0 0",
            "6 0 1 1 2 3 0 0 0 0 0 0 1 0 0 0", "6 0 0 1 1 2 1 0 0 0 0 0 0 1000001 0 0",
        )

    def test_form(self):
        good = text_of(CELL, "6 0 0 0 0 0")
        self.check_no_paper(
            "", good[:-1], good + "\n", good + "0\n", good.replace("6", "06"), good.replace("6", "+6"),
            good.replace("0", "-0", 1),
            good.replace(" 0\n", "  0\n"), good.replace(" 0\n", " 0 \n"), good.replace(" 0\n", "\t0\n"), "\n" + good,
            good.replace(" cell", ""), good.replace(" cell", " certificate"),
            good.replace(" 0\n", " " + "0" * 25 + "\n"),
        )
        self.check_no_contents("6 0 0 0 0", "6 0 0 0 0 -1", "6 0 0 0 0 1", "6 99 0 0 0 0", "")
        self.check_no_contents("6 0 0 0 1 1 2 1 2 2 5 0", "6 0 0 0 1 1 2 1 2 1 5 5 0", "6 0 0 0 1 1 2 2 2 1 5 0")
        for call in (read_contents, is_warrant):
            with self.assertRaises(InvalidPaper):
                call(text_of(CELL if call is is_warrant else WARRANT, "6 0 0 0 0 0"))
        with self.assertRaises(InvalidPaper):
            read_contents(text_of(CELL, "6 0 0 0 0 0 0"))

    def test_nothing_is_changed(self):
        cell = filled(("task", "a", "o", "if i { release }"), ("point", "a", "o", [1]))
        before = shown(cell.contents)
        write_contents(cell.contents)
        self.assertEqual(shown(cell.contents), before)


def two_arms(*more):
    """Return a cell with two arms that must go one after another, beside a wall and a block."""
    return filled(
        ("arm", "a", slide_arm()), ("point", "a", "o", [-500]), ("point", "a", "p", [0]),
        ("arm", "b", slide_arm()), ("point", "b", "o", [500]), ("point", "b", "p", [0]),
        ("solid", "w", Wall((0, 0, 1), -1000)), ("solid", "t", Block((0, 110, 0), (0, 110, 9), 50)),
        ("task", "a", "o", "move p move o"), ("task", "b", "o", "if i { move p } move o"), *more,
    )


def pieces(cell, trees):
    """Return the text of a warrant of the contents of a cell with these trees, None for no tree."""
    numbers = write_contents(cell.contents).split("\n")[1]
    for tree in trees:
        numbers += " 0" if tree is None else " 1 " + numbers_of(tree)
    return text_of(WARRANT, numbers)


def numbers_of(tree):
    if tree[0] == "leaf":
        return " ".join(["0", str(len(tree[1]))] + [str(c) for way in tree[1] for c in way])
    return " ".join(["1" if tree[0] == "first" else "2", numbers_of(tree[1]), numbers_of(tree[2])])


def trees_of(cell):
    return [told[1] if told[0] == "clear" else None for told in map(cell.verdict, cell.questions)]


class TestWarrants(unittest.TestCase):
    def setUp(self):
        self.cell = two_arms()
        self.trees = trees_of(self.cell)

    def check_not_read(self, text):
        with self.subTest(text=text[-200:]):
            with self.assertRaises(InvalidPaper) as caught:
                is_warrant(text)
            self.assertIsInstance(caught.exception, ArmwarrantError)

    def test_what_is_written(self):
        text = write_warrant(self.cell)
        self.assertEqual(text, pieces(self.cell, self.trees))
        self.assertIn(None, self.trees)
        self.assertIs(is_warrant(text), True)
        self.assertIn("first", [tree[0] for tree in self.trees if tree is not None])

    def test_a_warrant_without_questions_about_two_arms(self):
        cell = filled(("arm", "a", slide_arm()), ("point", "a", "o", [0]), ("task", "a", "o", ""))
        self.assertIs(is_warrant(write_warrant(cell)), True)

    def test_not_ready(self):
        for edits in (
            [("without", "task", "a"), ("without", "task", "b")], [("task", "c", "o", "")],
            [("point", "b", "o", [-490])],
            [("solid", "t", Block((0, 20, 0), (0, 20, 9), 50))], [("task", "a", "o", "move q")],
            # Neither safe nor ready.
            [("task", "a", "o", "wait s on"), ("task", "c", "o", "")],
        ):
            cell = two_arms(*edits)
            with self.assertRaises(NotReady):
                write_warrant(cell)
            self.assertIs(is_warrant(pieces(cell, trees_of(cell))), False)
        with self.assertRaises(NotReady):
            write_warrant(Cell())
        self.assertIs(is_warrant(pieces(Cell(), [])), False)

    def test_not_safe(self):
        for edits in ([("task", "a", "o", "wait s on")], [("task", "a", "o", "move p"), ("task", "b", "o", "move p")]):
            cell = two_arms(*edits)
            self.assertTrue(cell.is_runnable())
            with self.assertRaises(NotSafe) as caught:
                write_warrant(cell)
            self.assertIsInstance(caught.exception, ArmwarrantError)
            self.assertIs(is_warrant(pieces(cell, trees_of(cell))), False)

    def test_too_wide(self):
        cell = two_arms(("task", "a", "o", "wait t off " * 199 + "move p"), ("task", "b", "o", "wait t off " * 99))
        self.assertEqual(cell.make_plan().width, 201 * 2 * 100)
        self.assertIs(is_warrant(pieces(cell, trees_of(cell))), False)

    def test_without_a_tree(self):
        words = {True: 0, False: 0}
        for at, question in enumerate(self.cell.questions):
            trees = self.trees[:]
            trees[at] = None
            holds = is_warrant(pieces(self.cell, trees))
            # Each tree about one arm is needed, and the one for where both begin.
            if question[0] != "arms" or (question[2], question[4]) == (("rest", "o", None), ("rest", "o", None)):
                self.assertIs(holds, False)
            words[holds] += self.trees[at] is not None
        self.assertGreater(min(words.values()), 3)

    def test_without_a_tree_that_the_plan_needs(self):
        # Without this one, the second arm would block the first one's way wherever it is.
        place = ("move", "o", "p", None)
        at = self.cell.questions.index(("arms", "a", place, "b", ("rest", "o", None)))
        self.assertIsNotNone(self.trees[at])
        trees = self.trees[:]
        trees[at] = None
        self.assertIs(is_warrant(pieces(self.cell, trees)), False)

    def test_a_tree_for_a_question_that_is_not_told_clear(self):
        for at, tree in enumerate(self.trees):
            if tree is None:
                leaf = ("leaf", ((1, 0, 0),))
                for other in (leaf, ("leaf", ()), ("first", leaf, leaf)):
                    trees = self.trees[:]
                    trees[at] = other
                    self.assertIs(is_warrant(pieces(self.cell, trees)), False)

    def test_a_tree_that_the_finder_did_not_find(self):
        # The judge accepts other trees for what is told clear, too.
        for at, tree in enumerate(self.trees):
            if tree is not None:
                trees = self.trees[:]
                trees[at] = ("first", tree, tree) if tree[0] == "leaf" else tree
                self.assertIs(is_warrant(pieces(self.cell, trees)), True)
        # With a depth of 0 the finder does not tell all of it clear, but the judge looks deeper.
        self.cell.edit([("depth", 0)])
        self.assertNotEqual(trees_of(self.cell), self.trees)
        self.assertIs(is_warrant(pieces(self.cell, self.trees)), True)

    def test_a_tree_that_is_not_accepted(self):
        for at, tree in enumerate(self.trees):
            if tree is not None:
                trees = self.trees[:]
                trees[at] = ("leaf", ((0, 0, 0),))
                if self.cell.questions[at][0] != "self":
                    self.assertIs(is_warrant(pieces(self.cell, trees)), False)
                trees[at] = ("leaf", ((0, 0, 1),) * 2)
                self.assertIs(is_warrant(pieces(self.cell, trees)), False)

    def test_one_number_changed(self):
        chance = random.Random(92)
        text = write_warrant(self.cell)
        numbers = text.split("\n")[1].split(" ")
        held = {True: 0, False: 0, None: 0}
        for at in chance.sample(range(len(numbers)), 250):
            changed = numbers[:]
            changed[at] = str(int(changed[at]) + chance.choice((-1, 1, 2, 300)))
            try:
                held[is_warrant(text_of(WARRANT, " ".join(changed)))] += 1
            except InvalidPaper:
                held[None] += 1
        self.assertGreater(min(held.values()), 10, held)

    def test_other_contents(self):
        for edit in (
            ("solid", "t", Block((0, 20, 0), (0, 20, 9), 50)), ("arm", "a", slide_arm(error=500)),
            ("point", "a", "p", [400]), ("arm", "b", slide_arm(radius=300)),
        ):
            cell = two_arms(edit)
            self.assertEqual(cell.questions, self.cell.questions)
            self.assertIs(is_warrant(pieces(cell, self.trees)), False)
        # What the judge does not see does not count.
        cell = two_arms(("arm", "a", slide_arm(speed=1000)), ("depth", 3))
        self.assertIs(is_warrant(pieces(cell, self.trees)), True)

    def test_trees_too_many_or_too_few(self):
        good = pieces(self.cell, self.trees)
        for trees in (self.trees[:-1], self.trees + [None], self.trees + [("leaf", ())], []):
            self.check_not_read(pieces(self.cell, trees))
        self.check_not_read(good[:-1] + " 0\n")
        self.check_not_read(write_contents(self.cell.contents))
        self.check_not_read(write_contents(self.cell.contents).replace("cell", "warrant"))

    def test_what_stands_ahead_of_a_tree(self):
        numbers = write_contents(self.cell.contents).split("\n")[1]
        for word in ("2", "-1", "10"):
            self.check_not_read(text_of(WARRANT, f"{numbers} {word} 0 1 0 0 1" + " 0" * (len(self.trees) - 1)))
        good = pieces(self.cell, self.trees)
        self.assertTrue(good.endswith(" 0\n"))
        for word in ("2", "-1", "1"):
            self.check_not_read(good[:-2] + word + "\n")

    def test_halvings_21_deep(self):
        tree = self.trees[0]
        for deep in range(1, 22):
            tree = ("first", tree, self.trees[0])
            trees = [tree] + self.trees[1:]
            if deep <= 20:
                self.assertIs(is_warrant(pieces(self.cell, trees)), True)
            else:
                self.check_not_read(pieces(self.cell, trees))

    def test_an_invalid_text_comes_ahead_of_what_does_not_hold(self):
        trees = self.trees[:]
        trees[0] = None
        self.check_not_read(pieces(self.cell, trees)[:-1] + " 7\n")

    def test_a_task_that_cannot_be_looked_at_is_not_asked_about(self):
        cell = two_arms(("task", "c", "o", ""))
        self.assertEqual(len(cell.questions), len(self.cell.questions))
        self.assertIs(is_warrant(pieces(cell, self.trees)), False)

    def test_nothing_is_changed(self):
        before = shown(self.cell.contents), list(self.cell.questions), trees_of(self.cell)
        write_warrant(self.cell)
        self.assertEqual((shown(self.cell.contents), self.cell.questions, trees_of(self.cell)), before)


if __name__ == "__main__":
    unittest.main()
