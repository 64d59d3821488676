"""Points [88] to [91] and [93]: certificates and meetings as texts."""
import random
import unittest

from things import ZERO, ball, random_matter, slider

from armwarrant.arms.arm import Arm, Body, Capsule
from armwarrant.arms.joints import Joint
from armwarrant.arms.moves import Move
from armwarrant.errors import ArmwarrantError, InvalidPaper
from armwarrant.judge.finding import find_verdict
from armwarrant.judge.judging import is_meeting, judge
from armwarrant.judge.matters import Matter, Mover
from armwarrant.judge.solids import Block, Box, Wall
from armwarrant.papers.certificates import (
    is_certificate, is_sure_meeting, read_certificate, read_meeting, write_certificate, write_meeting,
)

CERTIFICATE, MEETING = "armwarrant certificate", "armwarrant meeting"
LEAF = ("leaf", ())

# The integers of an arm with a joint that slides and one that turns, two capsules and two pairs.
JOINTS = [
    Joint(False, 0, (1, 2, 3), -4, 5, box=6, error=7, speed=8, accel=9, brake=10),
    Joint(True, 2, (0, -11, 0), -12, 13, speed=14, accel=15, brake=16),
]
JOINT_NUMBERS = "0 0 1 2 3 -4 5 6 7 8 9 10 1 2 0 -11 0 -12 13 0 0 14 15 16"
CAPSULES = [Capsule(0, Body((17, 18, 19), (20, 21, 22), 23)), Capsule(2, Body((24, 25, -26), (27, 28, 29), 30))]
CAPSULE_NUMBERS = "0 17 18 19 20 21 22 23 2 24 25 -26 27 28 29 30"
FULL_ARM = Arm(JOINTS, CAPSULES, beside=[(0, 1), (0, 1)])
FULL_NUMBERS = f"2 {JOINT_NUMBERS} 2 {CAPSULE_NUMBERS} 2 0 1 0 1"
# The integers of an arm with one joint alone, which is at rest at 5.
PLAIN_NUMBERS = "1 0 0 0 0 0 -9 9 0 0 1 1 1 0 0"
PLAIN = f"{PLAIN_NUMBERS} 5 5 0"


def plain_mover(bodies=(), held=(), rows=([5], [5])):
    arm = Arm([Joint(False, 0, ZERO, -9, 9)], [Capsule(1, body) for body in bodies])
    return Mover(arm, Move(arm, *rows), held)


def deep(left, word="first"):
    """Return a tree with so many halvings in one another, always the second half."""
    tree = LEAF
    for _ in range(left):
        tree = (word, LEAF, tree)
    return tree


def shown(thing):
    """Return all values of a thing."""
    if isinstance(thing, (list, tuple)):
        return [type(thing).__name__] + [shown(member) for member in thing]
    if hasattr(thing, "__dict__"):
        return [type(thing).__name__, {name: shown(value) for name, value in vars(thing).items()}]
    return thing


class PaperCase(unittest.TestCase):
    def check_certificate(self, matter, tree, numbers):
        text = f"{CERTIFICATE}\n{numbers}\n"
        with self.subTest(numbers):
            self.assertEqual(write_certificate(matter, tree), text)
            found = read_certificate(text)
            self.assertIs(type(found), tuple)
            self.assertEqual(shown(found), shown((matter, tree)))

    def check_meeting(self, matter, first, second, numbers):
        text = f"{MEETING}\n{numbers}\n"
        with self.subTest(numbers):
            self.assertEqual(write_meeting(matter, first, second), text)
            found = read_meeting(text)
            self.assertIs(type(found), tuple)
            self.assertEqual(shown(found), shown((matter, first, second)))

    def check_no_paper(self, *texts):
        for text in texts:
            for call in (read_certificate, is_certificate, read_meeting, is_sure_meeting):
                with self.subTest(text=text[:300], call=call.__name__):
                    with self.assertRaises(InvalidPaper) as caught:
                        call(text)
                    self.assertIsInstance(caught.exception, ArmwarrantError)

    def check_no_certificate(self, *rows):
        self.check_no_paper(*[f"{CERTIFICATE}\n{row}\n" for row in rows])


class TestThings(PaperCase):
    def test_an_arm(self):
        mover = Mover(FULL_ARM, Move(FULL_ARM, [-4, 13], [5, -12]), [ball((1, 2, 3), 4), ball((5, 6, 7), 8)])
        numbers = f"{FULL_NUMBERS} -4 13 5 -12 2 1 2 3 1 2 3 4 5 6 7 5 6 7 8"
        self.check_certificate(Matter("self", mover), LEAF, f"1 {numbers} 0 0")

    def test_an_arm_without_capsules(self):
        self.check_certificate(Matter("self", plain_mover()), LEAF, f"1 {PLAIN} 0 0")

    def test_held_bodies(self):
        for many in range(5):
            numbers = " ".join([str(many)] + ["1 2 3 1 2 3 4"] * many)
            matter = Matter("self", plain_mover(held=[ball((1, 2, 3), 4)] * many))
            self.check_certificate(matter, LEAF, f"1 {PLAIN_NUMBERS} 5 5 {numbers} 0 0")

    def test_solids(self):
        for solid, numbers in (
            (Block((1, 2, 3), (-4, 5, 6), 7), "0 1 2 3 -4 5 6 7"), (Box((1, 2, 3), (4, 5, 6), 7), "1 1 2 3 4 5 6 7"),
            (Wall((1, -2, 3), -100000000000), "2 1 -2 3 -100000000000"),
        ):
            self.check_certificate(Matter("shape", plain_mover(), solid), LEAF, f"0 {PLAIN} {numbers} 0 0")

    def test_two_movers(self):
        matter = Matter("arms", plain_mover(rows=([5], [6])), plain_mover([ball(ZERO, 2)], rows=([-9], [9])))
        first = f"{PLAIN_NUMBERS} 5 6 0"
        second = PLAIN_NUMBERS[:-3] + "1 1 0 0 0 0 0 0 2 0 -9 9 0"
        self.check_certificate(matter, LEAF, f"2 {first} {second} 0 0")

    def test_trees(self):
        matter = Matter("self", plain_mover())
        for tree, numbers in (
            (("leaf", ((1, 2, 3),)), "0 1 1 2 3"), (("leaf", ((1, -2, 3), (0, 0, 0))), "0 2 1 -2 3 0 0 0"),
            (("first", LEAF, ("leaf", ((1, 2, 3),))), "1 0 0 0 1 1 2 3"), (("second", LEAF, LEAF), "2 0 0 0 0"),
            (("first", ("second", LEAF, LEAF), LEAF), "1 2 0 0 0 0 0 0"),
            (("second", LEAF, ("first", LEAF, LEAF)), "2 0 0 1 0 0 0 0"),
        ):
            self.check_certificate(matter, tree, f"1 {PLAIN} {numbers}")

    def test_20_halvings_in_one_another(self):
        matter = Matter("self", plain_mover())
        for word, number in (("first", 1), ("second", 2)):
            for left in (19, 20):
                self.check_certificate(matter, deep(left, word), f"1 {PLAIN} " + f"{number} 0 0 " * left + "0 0")
            for left in (21, 22, 5000):
                self.check_no_certificate(f"1 {PLAIN} " + f"{number} 0 0 " * left + "0 0")
                self.check_no_certificate(f"1 {PLAIN} " + f"{number} " * left + "0 0 " * left + "0 0")

    def test_meetings(self):
        matter = Matter("self", plain_mover())
        self.check_meeting(matter, (0, 0), (0, 0), f"1 {PLAIN} 0 0 0 0")
        self.check_meeting(matter, (3, 7), (20, 1048575), f"1 {PLAIN} 3 7 20 1048575")
        self.check_meeting(matter, (-1, 4), (99, -5), f"1 {PLAIN} -1 4 99 -5")

    def test_drawn_matters(self):
        chance = random.Random(93)
        texts = {}
        for _ in range(150):
            matter = random_matter(chance, 3000)
            verdict = find_verdict(matter, 4)
            if verdict.word == "clear":
                text = write_certificate(matter, verdict.tree)
                again, tree = read_certificate(text)
                self.assertEqual(shown((again, tree)), shown((matter, verdict.tree)))
                self.assertEqual(write_certificate(again, tree), text)
            else:
                text = write_meeting(matter, *verdict.at)
                again, first, second = read_meeting(text)
                self.assertEqual(shown((again, (first, second))), shown((matter, verdict.at)))
                self.assertEqual(write_meeting(again, first, second), text)
            texts[text] = True
        self.assertEqual(len(texts), 150)

    def test_nothing_is_changed(self):
        mover = plain_mover([ball(ZERO, 2)], [ball(ZERO, 3)])
        matter = Matter("arms", mover, mover)
        before = shown(matter)
        write_certificate(matter, deep(3))
        write_meeting(matter, (0, 0), (0, 0))
        self.assertEqual(shown(matter), before)


class TestForm(PaperCase):
    GOOD = f"1 {PLAIN} 0 1 1 2 3"

    def test_heads_and_lines(self):
        good = f"{CERTIFICATE}\n{self.GOOD}\n"
        read_certificate(good)
        self.check_no_paper(
            "", "\n", "\n\n", good[:-1], good + "\n", good + " ", "\n" + good, " " + good, good + "0\n", good + good,
            good.replace("\n", " "), good.replace("\n", "\r\n"), good.replace(" certificate", ""), f"{CERTIFICATE}\n",
            f"{CERTIFICATE}\n\n", f"{CERTIFICATE} \n{self.GOOD}\n", f"{CERTIFICATE}\n {self.GOOD}\n",
            f"{CERTIFICATE}\n{self.GOOD} \n", f"{CERTIFICATE}\n\n{self.GOOD}\n", good.upper(), self.GOOD + "\n",
            f"armwarrant cell\n{self.GOOD}\n", f"armwarrant warrant\n{self.GOOD}\n",
                f"armwarrant  certificate\n{self.GOOD}\n",
        )

    def test_one_is_not_the_other(self):
        good = f"1 {PLAIN} 0 0"
        read_certificate(f"{CERTIFICATE}\n{good}\n")
        meeting = f"{MEETING}\n{good} 0 0\n"
        read_meeting(meeting)
        with self.assertRaises(InvalidPaper):
            read_certificate(meeting)
        with self.assertRaises(InvalidPaper):
            read_meeting(f"{CERTIFICATE}\n{good}\n")

    def test_words_that_are_no_integers(self):
        start = self.GOOD[:-1]
        read_certificate(f"{CERTIFICATE}\n{start}3\n")
        read_certificate(f"{CERTIFICATE}\n{start}-3\n")
        for word in (
            "", "-", "+3", "03", "-03", "00", "-0", "--3", "3-", "3.0", "0x3", "3_0", "a", "3\t", " 3", "3 ", "1e3",
            "\u0663", "\u00b3", "-\u0663", "3,", "None",
        ):
            self.check_no_certificate(start + word)

    def test_at_most_24_digits(self):
        start = self.GOOD[:-1]
        for sign in ("", "-"):
            for digits in ("9" * 24, "1" + "0" * 23):
                text = f"{CERTIFICATE}\n{start}{sign}{digits}\n"
                _, tree = read_certificate(text)
                self.assertEqual(tree, ("leaf", ((1, 2, int(sign + digits)),)))
                self.assertIs(is_certificate(text), False)
            for digits in ("1" + "0" * 24, "9" * 25, "1" * 6000):
                self.check_no_certificate(start + sign + digits)

    def test_something_is_left_over_or_missing(self):
        numbers = self.GOOD.split()
        for size in range(1, len(numbers)):
            self.check_no_certificate(" ".join(numbers[:size]))
        self.check_no_certificate(self.GOOD + " 0", self.GOOD + " 0 0", self.GOOD + " 1")
        self.check_no_paper(f"{MEETING}\n1 {PLAIN} 0 0 0\n", f"{MEETING}\n1 {PLAIN} 0 0 0 0 0\n")

    def test_lists_that_are_too_long_or_too_short(self):
        for tree in (
            "0 0 1 2 3", "0 2 1 2 3", "0 1 1 2", "0 1 1 2 3 4", "0 -1", "0 -1 1 2 3", "0 " + "9" * 24, "1 0 0",
        ):
            self.check_no_certificate(f"1 {PLAIN} {tree}")
        numbers = PLAIN_NUMBERS.split()
        for at, sizes in ((0, "02"), (-2, "1"), (-1, "1")):
            for size in sizes:
                changed = numbers[:]
                changed[at] = size
                self.check_no_certificate(f"1 {' '.join(changed)} 5 5 0 0 0")


class TestWrongThings(PaperCase):
    def check_arm(self, numbers, rows="5 5"):
        """Check that numbers of an arm are not read."""
        self.check_no_certificate(f"1 {numbers} {rows} 0 0 0", f"0 {numbers} {rows} 0 2 0 0 1 0 0 0")
        self.check_no_certificate(f"2 {PLAIN} {numbers} {rows} 0 0 0", f"2 {numbers} {rows} 0 {PLAIN} 0 0")
        self.check_no_paper(f"{MEETING}\n1 {numbers} {rows} 0 0 0 0 0\n")

    def test_joints(self):
        read_certificate(f"{CERTIFICATE}\n1 {PLAIN_NUMBERS} 5 5 0 0 0\n")
        for joint in (
            "2 0 0 0 0 -9 9 0 0 1 1 1", "-1 0 0 0 0 -9 9 0 0 1 1 1", "0 3 0 0 0 -9 9 0 0 1 1 1",
            "0 -1 0 0 0 -9 9 0 0 1 1 1", "0 0 10000001 0 0 -9 9 0 0 1 1 1", "0 0 0 0 0 9 -9 0 0 1 1 1",
            "0 0 0 0 0 -10000001 9 0 0 1 1 1", "1 0 0 0 0 -9 8000001 0 0 1 1 1", "0 0 0 0 0 -9 9 -1 0 1 1 1",
            "0 0 0 0 0 -9 9 0 100001 1 1 1", "0 0 0 0 0 -9 9 0 0 0 1 1", "0 0 0 0 0 -9 9 0 0 1 0 1",
            "0 0 0 0 0 -9 9 0 0 1 2 1",
        ):
            self.check_arm(f"1 {joint} 0 0")

    def test_arms(self):
        joint, body = "0 0 0 0 0 -9 9 0 0 1 1 1", "0 0 0 0 0 0 0"
        for numbers, rows in (
            (f"6 {' '.join([joint] * 6)} 8 {' '.join(['1 ' + body] * 8)} 1 0 7", "5 5 5 5 5 5 " * 2),
        ):
            read_certificate(f"{CERTIFICATE}\n1 {numbers} {rows}0 0 0\n")
        self.check_arm("0 0 0", "")
        self.check_arm(f"7 {' '.join([joint] * 7)} 0 0", "5 5 5 5 5 5 5 5 5 5 5 5 5 5")
        self.check_arm(f"1 {joint} 9 {' '.join(['1 ' + body] * 9)} 0")
        self.check_arm(f"1 {joint} 1 2 {body} 0")
        self.check_arm(f"1 {joint} 1 -1 {body} 0")
        self.check_arm(f"1 {joint} 1 1 0 0 0 0 10000001 0 0 0")
        self.check_arm(f"1 {joint} 1 1 0 0 0 0 0 0 1000001 0")
        self.check_arm(f"1 {joint} 1 1 0 0 0 0 0 0 -1 0")
        two = f"1 {joint} 2 1 {body} 1 {body}"
        for pair in ("0 0", "1 0", "0 2", "-1 1"):
            self.check_arm(f"{two} 1 {pair}")

    def test_moves_that_do_not_fit(self):
        for rows in ("10 5", "5 10", "-10 5", "5 -10"):
            self.check_arm(PLAIN_NUMBERS, rows)

    def test_held_bodies(self):
        body = "0 0 0 0 0 0 0"
        for many in (5, 6):
            self.check_no_certificate(f"1 {PLAIN_NUMBERS} 5 5 {many} {' '.join([body] * many)} 0 0")
        self.check_no_certificate(f"1 {PLAIN_NUMBERS} 5 5 1 0 0 0 0 0 0 -1 0 0", f"1 {PLAIN_NUMBERS} 5 5 -1 0 0")

    def test_solids(self):
        for solid in (
            "0 0 0 0 0 0 10000001 1", "0 0 0 0 0 0 0 -1", "0 0 0 0 0 0 0 1000001", "1 1 0 0 0 0 0 1",
            "1 0 0 0 0 0 0 -1", "1 0 0 0 0 0 10000001 1", "2 0 0 0 1", "2 0 0 1001 1", "2 0 0 1 100000000001",
            "3 0 0 0 0 0 0 1", "-1 0 0 0 0 0 0 1",
        ):
            self.check_no_certificate(f"0 {PLAIN} {solid} 0 0")

    def test_kinds_and_trees(self):
        self.check_no_certificate(f"3 {PLAIN} 0 0", f"-1 {PLAIN} 0 0", f"1 {PLAIN} 3 0 0 0 0", f"1 {PLAIN} -1 0")

    def test_wider_than_a_body_can_be(self):
        body = Body(ZERO, ZERO, 0)
        body.radius = 1000001
        text = write_certificate(Matter("self", plain_mover([body])), LEAF)
        self.check_no_paper(text)


class TestHolds(PaperCase):
    def matters(self):
        mover = slider(0, 400, [ball(ZERO, 10)])
        return [
            Matter("shape", mover, Block((200, 100, 0), (200, 100, 0), 10)),
            Matter("shape", mover, Wall((0, 0, 1), -1000)),
            Matter("arms", mover, slider(0, 400, [ball((0, 60, 0), 10)])), Matter("self", mover),
        ]

    def test_certificates(self):
        for matter in self.matters():
            verdict = find_verdict(matter, 8)
            self.assertEqual(verdict.word, "clear")
            text = write_certificate(matter, verdict.tree)
            self.assertIs(is_certificate(text), True)
            # Another matter, and another tree.
            mover = slider(0, 400, [ball(ZERO, 10), ball((0, 100, 0), 10)])
            for other in (Matter("shape", mover, Block((200, 100, 0), (200, 100, 0), 10)), self.matters()[0]):
                if verdict.tree != find_verdict(other, 8).tree:
                    self.assertIs(is_certificate(write_certificate(other, verdict.tree)), False)
            self.assertIs(is_certificate(write_certificate(matter, ("leaf", ((0, 0, 0),) * 3))), False)

    def test_one_number_changed(self):
        chance = random.Random(91)
        held = {True: 0, False: 0, None: 0}
        for matter in self.matters()[:3]:
            tree = find_verdict(matter, 8).tree
            numbers = write_certificate(matter, tree).split("\n")[1].split(" ")
            for at in range(len(numbers)):
                changed = numbers[:]
                changed[at] = str(int(changed[at]) + chance.choice((-1, 1, 40, -40)))
                text = f"{CERTIFICATE}\n{' '.join(changed)}\n"
                try:
                    found = is_certificate(text)
                except InvalidPaper:
                    held[None] += 1
                    continue
                self.assertIs(found, judge(*read_certificate(text)))
                held[found] += 1
        self.assertGreater(min(held.values()), 20, held)

    def test_a_way_turned_round(self):
        matter = self.matters()[1]
        self.assertIs(is_certificate(write_certificate(matter, ("leaf", ((0, 0, 1),)))), True)
        for way in ((0, 0, -1), (0, 0, 2), (0, 1, 1)):
            self.assertIs(is_certificate(write_certificate(matter, ("leaf", (way,)))), False)

    def test_halvings_of_a_second_part_that_is_not_there(self):
        leaf = ("leaf", ((0, 0, 1),))
        self.assertIs(is_certificate(write_certificate(self.matters()[1], ("first", leaf, leaf))), True)
        self.assertIs(is_certificate(write_certificate(self.matters()[1], ("second", leaf, leaf))), False)

    def test_meetings(self):
        mover = slider(0, 1000, [ball(ZERO, 10)])
        matter = Matter("shape", mover, Block((300, 0, 0), (300, 0, 0), 5))
        verdict = find_verdict(matter, 8)
        self.assertEqual(verdict.word, "meets")
        self.assertIs(is_sure_meeting(write_meeting(matter, *verdict.at)), True)
        found = set()
        for depth in range(-1, 7):
            for at in range(-1, 2 ** max(0, depth) + 1):
                for second in ((0, 0), (1, 0), (0, 1)):
                    holds = is_sure_meeting(write_meeting(matter, (depth, at), second))
                    self.assertIs(holds, is_meeting(matter, (depth, at), second))
                    found.add(holds)
        self.assertEqual(found, {True, False})
        for depth in (20, 21, 10 ** 20):
            self.assertIs(is_sure_meeting(write_meeting(matter, (depth, 314572), (0, 0))), depth == 20)

    def test_meetings_of_two_arms(self):
        mover = slider(0, 1000, [ball(ZERO, 10)])
        matter = Matter("arms", mover, slider(1000, 0, [ball(ZERO, 10)]))
        for first, second, holds in (
            ((0, 0), (0, 0), True), ((1, 0), (1, 1), True), ((1, 0), (1, 0), False), ((0, 0), (1, 0), False),
            ((0, 1), (0, 0), False), ((0, 0), (0, 1), False),
        ):
            self.assertIs(is_sure_meeting(write_meeting(matter, first, second)), holds)


if __name__ == "__main__":
    unittest.main()
