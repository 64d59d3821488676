"""Points [33], [35] and [36]: what the finder looks at, and its verdicts."""
import random
import unittest

from things import ZERO, ball, folder, random_matter, slider
from told_finder import told_verdict

from armwarrant.arms.arm import Arm, Body, Capsule
from armwarrant.arms.joints import Joint
from armwarrant.arms.moves import Move
from armwarrant.errors import ArmwarrantError, OutOfRange
from armwarrant.judge.finding import Verdict, find_verdict
from armwarrant.judge.judging import is_meeting, judge
from armwarrant.judge.matters import Matter, Mover
from armwarrant.judge.solids import Block, Box, Wall

WHOLE = ((0, 0), (0, 0))
X, Y, Z = (1, 0, 0), (0, 1, 0), (0, 0, 1)


def at_rest(x, radius, **others):
    return slider(x, x, [ball(ZERO, radius)], **others)


def halvings(tree):
    return 0 if tree[0] == "leaf" else 1 + max(halvings(tree[1]), halvings(tree[2]))


def size(tree):
    return 1 if tree[0] == "leaf" else 1 + size(tree[1]) + size(tree[2])


class FinderCase(unittest.TestCase):
    def check(self, verdict, word, tree, at, looked):
        self.assertIsInstance(verdict, Verdict)
        self.assertEqual((verdict.word, verdict.tree, verdict.at, verdict.looked), (word, tree, at, looked))
        self.assertEqual(verdict.told(), (word, at if tree is None else tree))
        self.assertIs(type(verdict.told()), tuple)


class TestDepth(FinderCase):
    def test_depths_out_of_range(self):
        matters = [
            Matter("shape", at_rest(0, 9), Block(ZERO, ZERO, 9)), Matter("self", at_rest(0, 9)),
            Matter("arms", at_rest(0, 9), at_rest(100, 9)),
        ]
        for matter in matters:
            for depth in (-1, -20, 21, 100):
                with self.assertRaises(OutOfRange) as caught:
                    find_verdict(matter, depth)
                self.assertEqual(caught.exception.field, "depth")
                self.assertIsInstance(caught.exception, ArmwarrantError)
            for depth in (0, 1, 20):
                self.assertEqual(find_verdict(matter, depth).looked, 1)


class TestOneLook(FinderCase):
    def test_clear(self):
        matter = Matter("shape", at_rest(18, 10), Block(ZERO, ZERO, 5))
        for depth in (0, 20):
            self.check(find_verdict(matter, depth), "clear", ("leaf", ((18, 0, 0),)), None, 1)

    def test_meets(self):
        matter = Matter("shape", at_rest(13, 10), Block(ZERO, ZERO, 5))
        for depth in (0, 20):
            self.check(find_verdict(matter, depth), "meets", None, WHOLE, 1)

    def test_open(self):
        # Neither within 10 - 2 + 5, nor beyond 10 + 2 + 5.
        for x in (14, 17):
            matter = Matter("shape", at_rest(x, 10), Block(ZERO, ZERO, 5))
            for depth in (0, 20):
                self.check(find_verdict(matter, depth), "open", None, WHOLE, 1)

    def test_the_words_of_each_kind(self):
        for gap, word in ((23, "meets"), (24, "open"), (43, "open"), (44, "clear")):
            # The sums are 10 + 25 - 2 - 10 and 10 + 25 + 2 + 10 - 4.
            for matter in (
                Matter("arms", at_rest(gap + 4 * (gap > 24), 10), at_rest(0, 25, error=8)),
                Matter("arms", at_rest(-gap - 4 * (gap > 24), 10, error=8), at_rest(0, 25)),
            ):
                self.assertEqual(find_verdict(matter, 3).word, word)
        for y, word in ((11, "meets"), (12, "open"), (19, "open"), (20, "clear")):
            self.assertEqual(find_verdict(Matter("self", folder([0, y], [0, y], [10, 5], [2, 0])), 3).word, word)
        for x, word in ((5, "meets"), (6, "open"), (17, "open"), (18, "clear")):
            self.assertEqual(find_verdict(Matter("shape", at_rest(x, 10), Wall(X, 5)), 3).word, word)
        for x, word in ((13, "meets"), (14, "open"), (17, "open"), (18, "clear")):
            self.assertEqual(find_verdict(Matter("shape", at_rest(x, 10), Box(ZERO, ZERO, 5)), 3).word, word)

    def test_without_pairs(self):
        for matter in (
            Matter("shape", slider(0, 9, []), Wall(X, 0)), Matter("self", at_rest(0, 9)),
            Matter("arms", at_rest(0, 9), slider(0, 9, [])), Matter("arms", slider(0, 9, []), at_rest(0, 9)),
        ):
            self.check(find_verdict(matter, 5), "clear", ("leaf", ()), None, 1)

    def test_the_tried_ways(self):
        body = Body((50, 0, 0), (90, 0, 0), 1)
        mover = slider(0, 0, [body, ball((0, -50, 0), 1)], [ball((3, 4, 60), 1)])
        tree = find_verdict(Matter("shape", mover, Block((10, 0, 0), ZERO, 5)), 0).tree
        self.assertEqual(tree, ("leaf", ((40, 0, 0), (0, -50, 0), (0, 400, 6000))))
        tree = find_verdict(Matter("shape", mover, Box((-9, -9, -9), (10, 9, 9), 5)), 0).tree
        self.assertEqual(tree, ("leaf", ((40, 0, 0), (0, -41, 0), (0, 0, 51))))
        tree = find_verdict(Matter("shape", mover, Wall((7, 0, 2), -900)), 0).tree
        self.assertEqual(tree, ("leaf", ((7, 0, 2),) * 3))
        tree = find_verdict(Matter("arms", slider(0, 0, [body, ball((0, 0, 50), 1)]), at_rest(0, 5)), 0).tree
        self.assertEqual(tree, ("leaf", ((50, 0, 0), (0, 0, 50))))
        tree = find_verdict(Matter("arms", at_rest(0, 5), slider(0, 0, [body, ball((0, 0, 50), 1)])), 0).tree
        self.assertEqual(tree, ("leaf", ((-50, 0, 0), (0, 0, -50))))
        tree = find_verdict(Matter("self", folder([5, 70], [5, 70], [10, 5], [2, 0])), 0).tree
        self.assertEqual(tree, ("leaf", ((5, 70, 0),)))

    def test_a_long_way_is_made_a_direction(self):
        matter = Matter("arms", at_rest(2 ** 20 + 1, 5), at_rest(0, 5))
        self.check(find_verdict(matter, 0), "clear", ("leaf", ((2 ** 19 + 1, 0, 0),)), None, 1)

    def test_a_pair_that_meets_is_told_before_one_that_is_open(self):
        mover = slider(0, 0, [ball((14, 0, 0), 10), ball((0, 900, 0), 10), ball(ZERO, 10)])
        self.check(find_verdict(Matter("shape", mover, Block(ZERO, ZERO, 5)), 4), "meets", None, WHOLE, 1)
        mover = slider(0, 0, [ball((0, 900, 0), 10), ball((14, 0, 0), 10)])
        self.check(find_verdict(Matter("shape", mover, Block(ZERO, ZERO, 5)), 4), "open", None, WHOLE, 1)


class TestHalving(FinderCase):
    def test_no_halving_is_left(self):
        # 518 are needed, and 268 in the halves: see the tests of the judge.
        mover = slider(0, 1000, [ball((0, 0, 300), 10)])
        matter = Matter("shape", mover, Wall(Z, 5))
        leaf = ("leaf", (Z,))
        self.check(find_verdict(matter, 0), "open", None, WHOLE, 1)
        for depth in (1, 2, 20):
            self.check(find_verdict(matter, depth), "clear", ("first", leaf, leaf), None, 3)

    def test_several_halvings(self):
        # At the depths 1, 2 and 3 there are 251, 126 and 64 and 1 more unknown, with 2 at the beginning.
        mover = slider(0, 1000, [ball((0, 0, 100), 10)])
        matter = Matter("shape", mover, Wall(Z, 5))
        for depth in (0, 1, 2):
            at = ((depth, 0), (0, 0))
            self.check(find_verdict(matter, depth), "open", None, at, depth + 1)
        tree = ("leaf", (Z,))
        for _ in range(3):
            tree = ("first", tree, tree)
        for depth in (3, 4, 20):
            self.check(find_verdict(matter, depth), "clear", tree, None, 15)

    def test_it_is_not_halved_if_a_pair_is_not_surely_apart(self):
        # In the middle the ball is at x = 500 and its unknown is 3: the bound is 10 + 3 + 5.
        mover = slider(0, 1000, [ball((0, 0, 0), 10)])
        for away, looked in ((17, 1), (18, 1), (19, 2)):
            matter = Matter("shape", mover, Block((500, away, 0), (500, away, 0), 5))
            self.assertEqual(find_verdict(matter, 1).looked > 1, looked > 1)
            matter = Matter("arms", mover, slider(500, 500, [ball((0, away, 1), 4)]))
            self.assertEqual(find_verdict(matter, 1).looked > 1, away > 18)
        for bound, looked in ((-18, 1), (-19, 2)):
            matter = Matter("shape", slider(0, 1000, [ball((0, 0, -5), 10)]), Wall(Z, bound))
            self.assertEqual(find_verdict(matter, 1).looked, looked)

    def test_the_verdict_on_the_first_half_counts_first(self):
        block = Block((750, 0, 0), (750, 0, 0), 5)
        # The second ball meets the block in the first half, the first ball in the second half.
        both = [ball((0, 0, 0), 10), ball((500, 0, 0), 10)]
        matter = Matter("shape", slider(0, 1000, both), block)
        self.check(find_verdict(matter, 5), "meets", None, ((1, 0), (0, 0)), 2)
        # The first half is open, since no halving is left for the second ball, which is 100 away there.
        both = [ball((0, 0, 0), 10), ball((400, 0, 0), 10)]
        matter = Matter("shape", slider(0, 1000, both), block)
        self.check(find_verdict(matter, 1), "open", None, ((1, 0), (0, 0)), 2)
        self.assertTrue(is_meeting(matter, (1, 1), (0, 0)))

    def test_the_second_half_counts_if_the_first_one_is_clear(self):
        matter = Matter("shape", slider(0, 1000, [ball((0, 0, 0), 10)]), Block((750, 0, 0), (750, 0, 0), 5))
        # The first half is clear by more halvings, which end at x = 500.
        verdict = find_verdict(matter, 5)
        self.assertEqual(verdict.told(), ("meets", ((1, 1), (0, 0))))
        self.assertGreater(verdict.looked, 2)
        turned = Matter("shape", slider(1000, 0, [ball((0, 0, 0), 10)]), Block((255, 0, 0), (255, 0, 0), 5))
        self.assertEqual(find_verdict(turned, 5).told(), ("meets", ((1, 1), (0, 0))))
        # The second half is open, since it is not surely apart.
        matter = Matter("shape", slider(0, 1000, [ball((0, 0, 0), 10)]), Block((766, 0, 0), (766, 0, 0), 5))
        self.assertEqual(find_verdict(matter, 5).told(), ("open", ((1, 1), (0, 0))))

    def test_which_part_is_halved(self):
        def word(far, other_far, **others):
            """Return the word of the tree of two balls that go one over the other, 300 apart."""
            upper = slider(500 - far // 2, 500 + far // 2, [ball((0, 0, 300), 10)], **others)
            lower = slider(500 - other_far // 2, 500 + other_far // 2, [ball(ZERO, 10)])
            return find_verdict(Matter("arms", upper, lower), 6).tree[0]

        self.assertEqual(word(1000, 0), "first")
        self.assertEqual(word(0, 1000), "second")
        self.assertEqual(word(1000, 990), "first")
        self.assertEqual(word(990, 1000), "second")
        # Equal gains: the first part.
        self.assertEqual(word(1000, 1000), "first")
        self.assertEqual(word(1000, -1000), "first")
        # The gain does not grow with the error.
        self.assertEqual(word(990, 1000, error=50), "second")

    def test_both_parts_are_halved_in_turn(self):
        upper, lower = slider(0, 1000, [ball((0, 0, 300), 10)]), slider(0, 1000, [ball(ZERO, 10)])
        told = find_verdict(Matter("arms", upper, lower), 6)
        tree, words = told.tree, []
        while tree[0] != "leaf":
            words.append(tree[0])
            tree = tree[1]
        # After a halving the other part gains more; after two of them both gain as much again.
        self.assertEqual(words, ["first", "second", "first", "second"])
        self.assertEqual(tree, ("leaf", ((0, 0, 300),)))
        self.assertEqual(told.looked, size(told.tree))

    def test_the_gain_is_the_greatest_one_of_the_bodies(self):
        # A body of link 0 gains nothing; the gain of the others counts, whichever of them comes first.
        arm = Arm([Joint(False, 0, ZERO, -9999, 9999)], [
            Capsule(0, ball((0, 0, 900), 10)), Capsule(1, ball((0, 0, 300), 10)), Capsule(0, ball((0, 0, 900), 10)),
        ])
        upper = Mover(arm, Move(arm, [0], [1000]))
        told = find_verdict(Matter("arms", upper, slider(0, 990, [ball(ZERO, 10)])), 6)
        self.assertEqual((told.word, told.tree[0]), ("clear", "first"))
        told = find_verdict(Matter("arms", slider(0, 990, [ball(ZERO, 10)]), upper), 6)
        self.assertEqual((told.word, told.tree[0]), ("clear", "second"))

    def test_the_second_part_of_other_kinds_is_never_halved(self):
        chance = random.Random(30)
        for _ in range(200):
            matter = random_matter(chance, 1000)
            verdict = find_verdict(matter, 5)
            if matter.kind != "arms":
                self.assertTrue(verdict.at is None or verdict.at[1] == (0, 0))
                self.assertNotIn("second", str(verdict.tree))

    def test_a_rest_that_cannot_be_parted_is_halved_to_the_end(self):
        # Surely apart, 4.2.. and more than 4, but the length of the way is 5, rounded up, and 18 is below 5 * 4.
        mover = slider(0, 0, [ball((3, 3, 0), 2)])
        block = Block(ZERO, ZERO, 0)
        for depth in (0, 1, 5, 20):
            at = ((depth, 0), (0, 0))
            self.check(find_verdict(Matter("shape", mover, block), depth), "open", None, at, depth + 1)


class TestVerdicts(FinderCase):
    def test_it_is_what_the_document_tells(self):
        chance = random.Random(35)
        words = []
        for _ in range(2000):
            matter = random_matter(chance, chance.choice((100, 10000, 300000, 2000000)))
            depth = chance.choice((0, 1, 4, 8))
            told = told_verdict(matter, depth)
            self.check(find_verdict(matter, depth), *told)
            words.append(told[0] if told[3] > 1 else "")
        for word in ("clear", "meets", "open"):
            self.assertGreater(words.count(word), 5, word)

    def test_what_a_verdict_shows(self):
        chance = random.Random(36)
        words = []
        for _ in range(700):
            matter = random_matter(chance, chance.choice((30, 1000, 100000)))
            depth = chance.choice((0, 2, 7))
            verdict = find_verdict(matter, depth)
            words.append(verdict.word)
            if verdict.word == "clear":
                self.assertIsNone(verdict.at)
                self.assertIs(judge(matter, verdict.tree), True)
                self.assertLessEqual(halvings(verdict.tree), depth)
                self.assertEqual(verdict.looked, size(verdict.tree))
            else:
                self.assertIsNone(verdict.tree)
                self.assertIs(is_meeting(matter, *verdict.at), verdict.word == "meets")
                self.assertLessEqual(verdict.at[0][0] + verdict.at[1][0], depth)
        for word in ("clear", "meets", "open"):
            self.assertGreater(words.count(word), 10, word)


if __name__ == "__main__":
    unittest.main()
