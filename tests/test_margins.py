"""Points [37] and [38]: matters made wider, margins, and depths that are enough."""
import random
import unittest

from things import ZERO, ball, folder, random_matter, random_mover, slide, slider

from armwarrant.arms.arm import Arm, Body, Capsule
from armwarrant.arms.joints import Joint
from armwarrant.arms.moves import Move
from armwarrant.errors import ArmwarrantError, OutOfRange
from armwarrant.judge.finding import find_verdict
from armwarrant.judge.margins import depth_for, margin, wider
from armwarrant.judge.matters import Matter, Mover
from armwarrant.judge.solids import Block, Box, Wall

X = (1, 0, 0)


def at_rest(x, radius, **others):
    return slider(x, x, [ball(ZERO, radius)], **others)


def radii(mover):
    return [body.radius for _, body in mover.bodies()]


def seen_of(mover):
    """Return all that there is of a mover, but for its joints and its radii."""
    bodies = [(link, body.first, body.last) for link, body in mover.bodies()]
    return (bodies, mover.arm.beside, mover.move.first, mover.move.last, len(mover.held))


class TestWider(unittest.TestCase):
    def mover(self):
        arm = Arm([slide(0), slide(1)], [
            Capsule(2, Body((1, 2, 3), (4, 5, 6), 7)), Capsule(0, ball(ZERO, 1000000)), Capsule(1, ball(X, 0)),
        ], beside=[(0, 1)])
        return Mover(arm, Move(arm, [1, 2], [3, 4]), [Body(X, ZERO, 30), ball(ZERO, 999999)])

    def check_mover(self, mover, before, width):
        self.assertEqual(radii(mover), [radius + width for radius in radii(before)])
        self.assertEqual(seen_of(mover), seen_of(before))
        self.assertEqual([vars(joint) for joint in mover.arm.joints], [vars(joint) for joint in before.arm.joints])
        self.assertIsInstance(mover, Mover)

    def test_each_body_of_each_mover_is_made_wider(self):
        mover, other = self.mover(), at_rest(5, 6)
        for width in (0, 1, 65535, 5000000):
            for matter in (Matter("self", mover), Matter("shape", mover, Wall(X, 0)), Matter("arms", mover, other)):
                found = wider(matter, width)
                self.assertIsInstance(found, Matter)
                self.assertEqual(found.kind, matter.kind)
                self.check_mover(found.mover, mover, width)
                self.assertEqual(found.pairs(), matter.pairs())
            self.check_mover(found.other, other, width)

    def test_radii_beyond_their_bound(self):
        found = wider(Matter("self", self.mover()), 1)
        self.assertEqual(radii(found.mover), [8, 1000001, 1, 31, 1000000])
        self.assertEqual(radii(wider(found, 10 ** 9).mover), [10 ** 9 + r for r in (8, 1000001, 1, 31, 1000000)])

    def test_a_solid_stays_as_it_is(self):
        for solid in (Block(ZERO, X, 5), Box(ZERO, X, 5), Wall(X, 5)):
            before = dict(vars(solid))
            found = wider(Matter("shape", at_rest(9, 1), solid), 77)
            self.assertEqual(vars(found.other), before)
            self.assertIs(type(found.other), type(solid))

    def test_a_mover_and_itself_has_no_other(self):
        self.assertIsNone(wider(Matter("self", self.mover()), 3).other)

    def test_the_matter_itself_stays_as_it_is(self):
        mover, other = self.mover(), at_rest(5, 6)
        matter = Matter("arms", mover, other)
        wider(matter, 50)
        self.assertEqual(radii(mover), [7, 1000000, 0, 30, 999999])
        self.assertEqual(radii(other), [6])
        self.assertIs(matter.mover, mover)
        self.assertIs(matter.other, other)

    def test_what_is_clear_wider_is_clear_less_wide(self):
        chance = random.Random(37)
        for _ in range(60):
            matter = random_matter(chance, 3000)
            depth = chance.choice((0, 3, 6))
            clear = [find_verdict(wider(matter, width), depth).word == "clear" for width in range(0, 3000, 300)]
            self.assertEqual(clear, sorted(clear, reverse=True))


class TestMargin(unittest.TestCase):
    def test_a_block_at_the_bound(self):
        # Clear are more than 10 + 2 + 5, and the width.
        for x, told in ((0, None), (17, None), (18, 0), (19, 1), (100, 82), (10017, 9999)):
            for solid in (Block(ZERO, ZERO, 5), Box(ZERO, ZERO, 5)):
                self.assertEqual(margin(Matter("shape", at_rest(x, 10), solid), 0), told)
            self.assertEqual(margin(Matter("shape", at_rest(x, 10), Wall(X, 5)), 4), told)

    def test_two_movers_and_a_mover_and_itself(self):
        # Both sides are made wider: more than 10 + 5 + 4, and twice the width.
        for gap, told in ((19, None), (20, 0), (21, 0), (22, 1), (119, 49), (120, 50), (121, 50)):
            self.assertEqual(margin(Matter("arms", at_rest(gap, 10), at_rest(0, 5)), 2), told)
            self.assertEqual(margin(Matter("self", folder([0, gap], [0, gap], [10, 5], [2, 0])), 2), told)

    def test_the_greatest_width(self):
        for x, told in ((65551, 65533), (65552, 65534), (65553, 65535), (65554, 65535), (9000000, 65535)):
            self.assertEqual(margin(Matter("shape", at_rest(x, 10), Block(ZERO, ZERO, 5)), 1), told)

    def test_without_pairs(self):
        self.assertEqual(margin(Matter("self", at_rest(0, 10)), 3), 65535)

    def test_what_is_not_clear_as_it_is(self):
        for x in (0, 14):
            self.assertIsNone(margin(Matter("shape", at_rest(x, 10), Block(ZERO, ZERO, 5)), 20))

    def test_it_is_by_the_same_number_of_halvings(self):
        # At the depth d the unknown is 2 and 1000 / 2 ** (d + 1), rounded up, and 1.
        matter = Matter("shape", slider(0, 1000, [ball((0, 0, 600), 10)]), Wall((0, 0, 1), 0))
        self.assertEqual([margin(matter, depth) for depth in range(4)], [86, 336, 461, 523])
        matter = Matter("shape", slider(0, 1000, [ball((0, 0, 300), 10)]), Wall((0, 0, 1), 0))
        self.assertEqual([margin(matter, depth) for depth in range(3)], [None, 36, 161])

    def test_it_is_clear_by_the_margin_and_not_by_one_more(self):
        chance = random.Random(38)
        found = []
        for _ in range(150):
            matter = random_matter(chance, chance.choice((1000, 20000)))
            depth = chance.choice((0, 2, 5))
            told = margin(matter, depth)
            found.append(told)
            if told is None:
                self.assertNotEqual(find_verdict(matter, depth).word, "clear")
                continue
            self.assertEqual(find_verdict(wider(matter, told), depth).word, "clear")
            if told < 65535:
                self.assertNotEqual(find_verdict(wider(matter, told + 1), depth).word, "clear")
        self.assertGreater(found.count(None), 5)
        self.assertGreater(len(set(found)), 50)

    def test_depths_out_of_range(self):
        for x in (0, 100):
            for depth in (-1, -2, 21, 50):
                with self.assertRaises(OutOfRange) as caught:
                    margin(Matter("shape", at_rest(x, 10), Block(ZERO, ZERO, 5)), depth)
                self.assertEqual(caught.exception.field, "depth")
                self.assertIsInstance(caught.exception, ArmwarrantError)
        self.assertEqual(margin(Matter("shape", at_rest(100, 10), Block(ZERO, ZERO, 5)), 20), 82)


class TestDepthFor(unittest.TestCase):
    def test_a_slide(self):
        # At the depth d the half is 1000 / 2 ** (d + 1), rounded up, and 1; the slack is 1.
        mover = slider(0, 1000, [ball(ZERO, 10)])
        for gap, depth in ((501, 0), (500, 0), (499, 1), (250, 1), (249, 2), (125, 2), (124, 3), (2, 8), (1, 9)):
            self.assertEqual(depth_for(mover, gap), depth)

    def test_none_is_enough(self):
        self.assertIsNone(depth_for(slider(0, 1000, [ball(ZERO, 10)]), 0))
        self.assertIsNone(depth_for(slider(5, 4, [ball(ZERO, 10)]), 0))

    def test_a_rest_and_no_bodies(self):
        self.assertEqual(depth_for(at_rest(7, 10), 0), 0)
        self.assertEqual(depth_for(slider(0, 1000, []), 0), 0)

    def test_a_turn_whose_unknowns_are_equal_in_the_end(self):
        # With a lever of 10 the unknowns are 2 and 20 * (half or slack) / 1000000, rounded up.
        arm = Arm([Joint(True, 2, ZERO, -1000000, 1000000)], [Capsule(1, ball((10, 0, 0), 1))])
        self.assertEqual(depth_for(Mover(arm, Move(arm, [0], [99998])), 0), 0)
        self.assertEqual(depth_for(Mover(arm, Move(arm, [0], [99999])), 0), 1)
        self.assertEqual(depth_for(Mover(arm, Move(arm, [0], [99999])), 1), 0)

    def test_each_body_counts(self):
        arm = Arm([slide(0), slide(1)], [Capsule(0, ball(ZERO, 1)), Capsule(2, ball(ZERO, 1)), Capsule(1, ball(X, 1))])
        mover = Mover(arm, Move(arm, [0, 0], [100, 700]), [ball(ZERO, 3)])
        # Of the bodies of link 2 there are 50 + 350 more unknown, then 25 + 175.
        for gap, depth in ((400, 0), (399, 1), (200, 1), (199, 2)):
            self.assertEqual(depth_for(mover, gap), depth)
        arm = Arm([slide(0), slide(1)], [Capsule(1, ball(ZERO, 1))])
        mover = Mover(arm, Move(arm, [0, 0], [100, 700]))
        for gap, depth in ((50, 0), (49, 1)):
            self.assertEqual(depth_for(mover, gap), depth)
        # Of what is held there are 7 + 44 more unknown at the depth 3.
        mover = Mover(arm, Move(arm, [0, 0], [100, 700]), [ball(ZERO, 1)])
        for gap, depth in ((51, 3), (50, 4)):
            self.assertEqual(depth_for(mover, gap), depth)

    def test_errors_and_boxes_count_on_both_sides(self):
        for gap, depth in ((500, 0), (499, 1), (1, 9)):
            self.assertEqual(depth_for(slider(0, 1000, [ball(ZERO, 10)], error=70, box=9), gap), depth)

    def test_the_deepest_depths(self):
        # No joint has such a range, but it shows where the depths end.
        for far, depth in ((2 ** 40, 39), (2 ** 40 + 1, 40), (2 ** 41, 40), (2 ** 41 + 1, None)):
            joint = slide()
            joint.most = 2 ** 42
            arm = Arm([joint], [Capsule(1, ball(ZERO, 1))])
            self.assertEqual(depth_for(Mover(arm, Move(arm, [0], [far])), 1), depth)

    def test_a_negative_gap(self):
        for mover in (slider(0, 1000, [ball(ZERO, 10)]), at_rest(0, 1), slider(0, 0, [])):
            for gap in (-1, -1000):
                with self.assertRaises(OutOfRange) as caught:
                    depth_for(mover, gap)
                self.assertEqual(caught.exception.field, "gap")
                self.assertIsInstance(caught.exception, ArmwarrantError)

    def test_it_is_the_least_depth_that_is_enough(self):
        chance = random.Random(40)
        found = set()
        for _ in range(200):
            mover = random_mover(chance, 5000)
            gap = chance.choice((0, 1, 7, 300, 2000))
            narrow = mover.unknowns(mover.move.slack())
            enough = [
                depth for depth in range(41)
                if all(w - n <= gap for w, n in zip(mover.unknowns(mover.move.halves(depth)), narrow))
            ]
            self.assertEqual(depth_for(mover, gap), min(enough, default=None))
            found.add(min(enough, default=None))
        self.assertGreater(len(found), 6)


if __name__ == "__main__":
    unittest.main()
