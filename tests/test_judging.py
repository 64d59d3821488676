"""Points [31] to [34]: which trees the judge accepts, that nothing of them can touch, and which meetings hold."""
import random
import unittest
from fractions import Fraction

from things import (
    ZERO, ball, folder, has_place_in, have_common_place, random_matter, slide, slider, touches,
)
from told_finder import told_judge

from armwarrant.arms.arm import Arm, Body, Capsule
from armwarrant.arms.moves import Move
from armwarrant.judge.finding import find_verdict
from armwarrant.judge.judging import is_meeting, judge
from armwarrant.judge.matters import Matter, Mover
from armwarrant.judge.solids import Block, Box, Wall

TOP = 2 ** 20
X, Y, Z = (1, 0, 0), (0, 1, 0), (0, 0, 1)


def leaf(*ways):
    return ("leaf", ways)


def at_rest(x, radius, **others):
    """Return a mover with a ball that rests at a place of the axis x; its unknown is 2."""
    return slider(x, x, [ball(ZERO, radius)], **others)


def above(solid, z=100, first=0, last=1000, radius=10):
    """Return the matter of a ball that goes along x at a height, and a solid."""
    return Matter("shape", slider(first, last, [ball((0, 0, z), radius)]), solid)


class TestLeaves(unittest.TestCase):
    def check(self, told, matter, *ways):
        with self.subTest(kind=matter.kind, ways=ways):
            self.assertIs(judge(matter, leaf(*ways)), told)

    def test_a_mover_and_a_solid_at_the_bound_and_beside_it(self):
        # The reach is 10 + 2 + 5.
        for x, told in ((16, False), (17, False), (18, True), (19, True)):
            for solid in (Block(ZERO, ZERO, 5), Box(ZERO, ZERO, 5)):
                self.check(told, Matter("shape", at_rest(x, 10), solid), X)
            self.check(told, Matter("shape", at_rest(x, 10), Wall(X, 5)), X)

    def test_a_mover_and_a_solid_with_errors(self):
        for x, told in ((17 + 230, False), (18 + 230, True)):
            mover = at_rest(x, 10, error=30, box=100)
            self.check(told, Matter("shape", mover, Block(ZERO, ZERO, 5)), X)
            self.check(told, Matter("shape", mover, Wall(X, 5)), X)

    def test_two_movers_at_the_bound_and_beside_it(self):
        # The reach is 10 + 5, and 2 and 2 + 30 unknown.
        for x, told in ((48, False), (49, False), (50, True)):
            self.check(told, Matter("arms", at_rest(x, 10), at_rest(0, 5, error=30)), X)
            self.check(told, Matter("arms", at_rest(x, 10, error=30), at_rest(0, 5)), X)
            self.check(False, Matter("arms", at_rest(0, 10), at_rest(x, 5, error=30)), X)
            self.check(told, Matter("arms", at_rest(0, 10), at_rest(x, 5, error=30)), (-1, 0, 0))

    def test_a_mover_and_itself_at_the_bound_and_beside_it(self):
        # The ball of link 0 has the unknown 2, that of link 2 has 2 as well.
        for x, told in ((18, False), (19, False), (20, True)):
            matter = Matter("self", folder([0, x], [0, x], [10, 5], [2, 0]))
            self.check(told, matter, Y)
            self.check(False, matter, (0, -1, 0))
            matter = Matter("self", folder([x, 0], [x, 0], [10, 5], [0, 2]))
            self.check(told, matter, (-1, 0, 0))

    def test_the_whole_way_is_unknown(self):
        # Half of the way is 500, and 1 more; with 2 at the beginning, 503.
        for z, told in ((518, False), (519, True)):
            self.check(told, above(Block(ZERO, ZERO, 5), z), Z)
            self.check(told, above(Wall(Z, 5), z), Z)
            self.check(told, Matter("arms", slider(0, 1000, [ball((0, 0, z + 2), 10)]), at_rest(0, 5)), Z)
            self.check(told, Matter("arms", at_rest(0, 5), slider(0, 1000, [ball((0, 0, -z - 2), 10)])), Z)

    def test_every_end_counts(self):
        for ends in (((0, 0, 50), (0, 0, 17)), ((0, 0, 17), (0, 0, 50))):
            self.check(False, Matter("shape", slider(0, 0, [Body(*ends, 10)]), Block(ZERO, ZERO, 5)), Z)
        for ends in (((0, 0, 50), (0, 0, 18)), ((0, 0, 18), (0, 0, 50))):
            self.check(True, Matter("shape", slider(0, 0, [Body(*ends, 10)]), Block(ZERO, ZERO, 5)), Z)

    def test_there_is_a_way_for_each_pair(self):
        mover = slider(0, 0, [ball((50, 0, 0), 1), ball((0, 50, 0), 1)], [ball((0, 0, 50), 1)])
        matter = Matter("shape", mover, Block(ZERO, ZERO, 5))
        self.check(True, matter, X, Y, Z)
        self.check(False, matter)
        self.check(False, matter, X)
        self.check(False, matter, X, Y)
        self.check(False, matter, X, Y, Z, Z)
        self.check(False, matter, X, Y, Z, ZERO)

    def test_ways_are_in_the_order_of_the_pairs(self):
        matter = Matter("shape", slider(0, 0, [ball((50, 0, 0), 1), ball((0, 50, 0), 1)]), Block(ZERO, ZERO, 5))
        self.check(False, matter, Y, X)
        mover = slider(0, 0, [ball((50, 0, 0), 1), ball((0, 50, 0), 1)])
        other = slider(0, 0, [ball(ZERO, 1), ball((100, 0, 0), 1)])
        matter = Matter("arms", mover, other)
        self.check(True, matter, X, (-1, 0, 0), Y, (-2, 1, 0))
        self.check(False, matter, X, Y, (-1, 0, 0), (-2, 1, 0))

    def test_a_way_that_does_not_part(self):
        matter = Matter("shape", slider(0, 0, [ball((50, 0, 0), 1), ball((0, 50, 0), 1)]), Block(ZERO, ZERO, 5))
        for way in (ZERO, X, Z, (0, -1, 0)):
            self.check(False, matter, X, way)
            self.check(False, matter, way, X)
        self.check(False, Matter("arms", at_rest(50, 1), at_rest(0, 1)), ZERO)

    def test_without_pairs(self):
        nothing = slider(0, 9, [])
        for matter in (
            Matter("shape", nothing, Wall(X, 0)), Matter("self", at_rest(0, 9)), Matter("arms", nothing, at_rest(0, 9)),
            Matter("arms", at_rest(0, 9), nothing),
        ):
            self.check(True, matter)
            self.check(False, matter, X)

    def test_coordinates_of_ways(self):
        for k in range(3):
            for sign in (1, -1):
                place = tuple(sign * 100 if n == k else 0 for n in range(3))
                mover = slider(0, 0, [ball(place, 10)])
                for matter in (
                    Matter("shape", mover, Block(ZERO, ZERO, 5)), Matter("shape", mover, Box(ZERO, ZERO, 5)),
                    Matter("arms", mover, at_rest(0, 5)),
                ):
                    self.check(True, matter, tuple(sign * TOP if n == k else 0 for n in range(3)))
                    self.check(False, matter, tuple(sign * (TOP + 1) if n == k else 0 for n in range(3)))
                    self.check(False, matter, tuple(sign * 2 * TOP if n == k else 0 for n in range(3)))

    def test_a_coordinate_that_does_not_matter_is_bounded_too(self):
        matter = Matter("shape", slider(0, 0, [ball((0, 900, 0), 1)]), Block(ZERO, ZERO, 1))
        for way in ((TOP, TOP, 0), (-TOP, TOP, 0), (0, TOP, TOP), (0, TOP, -TOP)):
            self.check(True, matter, way)
        for way in ((TOP + 1, TOP, 0), (-TOP - 1, TOP, 0), (0, TOP, TOP + 1), (0, TOP, -TOP - 1)):
            self.check(False, matter, way)

    def test_a_wall_is_parted_by_its_normal_alone(self):
        matter = Matter("shape", at_rest(50, 1), Wall((3, 0, 0), 5))
        self.check(True, matter, (3, 0, 0))
        for way in (X, (6, 0, 0), (-3, 0, 0), (3, 1, 0)):
            self.check(False, matter, way)


class TestTrees(unittest.TestCase):
    def test_a_first_part_that_is_halved(self):
        # In a half the unknown is 2 + 251, so 268 + 1 are needed.
        for z, told in ((268, False), (269, True)):
            for solid in (Block(ZERO, ZERO, 5), Wall(Z, 5)):
                self.assertIs(judge(above(solid, z), leaf(Z)), False)
                self.assertIs(judge(above(solid, z), ("first", leaf(Z), leaf(Z))), told)

    def test_the_halves_are_in_their_order(self):
        # The ball of link 2 goes from (1000, 0, 0) to (0, 1000, 0); in the halves 504 of it are unknown.
        goes = folder([1000, 0], [0, 1000], [1], [2])
        for matter in (
            Matter("shape", goes, Block(ZERO, ZERO, 1)), Matter("shape", goes, Box(ZERO, ZERO, 1)),
            Matter("self", folder([1000, 0], [0, 1000], [1, 1], [2, 0])), Matter("arms", goes, at_rest(0, 1)),
        ):
            self.assertIs(judge(matter, ("first", leaf(X), leaf(Y))), True)
            for first, second in ((Y, X), (X, X), (Y, Y)):
                self.assertIs(judge(matter, ("first", leaf(first), leaf(second))), False)
        matter = Matter("arms", at_rest(0, 1), goes)
        back = leaf((-1, 0, 0)), leaf((0, -1, 0))
        self.assertIs(judge(matter, ("second", *back)), True)
        self.assertIs(judge(matter, ("second", back[1], back[0])), False)
        self.assertIs(judge(matter, ("first", *back)), False)

    def test_a_tree_that_is_accepted_in_one_half_only(self):
        # The ball goes along x from 1000 to 0, and the block begins at x = 1200.
        matter = Matter("shape", slider(1000, 0, [ball(ZERO, 10)]), Block((2000, 0, 0), (2000, 0, 0), 800))
        self.assertEqual([matter.mover.lines((1, at))[0][0][0] for at in (0, 1)], [750, 250])
        good = leaf((-1, 0, 0))
        self.assertIs(judge(matter, ("first", good, good)), True)
        for bad in (leaf(X), leaf(Z), leaf(), leaf(ZERO), leaf((-1, 0, 0), (-1, 0, 0))):
            self.assertIs(judge(matter, ("first", good, bad)), False)
            self.assertIs(judge(matter, ("first", bad, good)), False)
            self.assertIs(judge(matter, ("first", good, ("first", good, bad))), False)
            self.assertIs(judge(matter, ("first", ("first", bad, good), good)), False)

    def test_a_place_that_only_one_half_is_clear_of(self):
        # The block is beside the second half of the way: the first half is clear of it.
        block = Block((900, 0, 0), (900, 0, 0), 5)
        matter = above(block, 0)
        back = leaf((-1, 0, 0))
        self.assertIs(judge(Matter("shape", slider(0, 500, [ball(ZERO, 10)]), block), back), True)
        self.assertIs(judge(matter, ("first", back, back)), False)
        turned = above(block, 0, 1000, 0)
        self.assertIs(judge(turned, ("first", back, back)), False)

    def test_the_second_part_is_halved_for_two_movers_alone(self):
        goes = slider(0, 1000, [ball((0, 0, 300), 10)])
        matter = Matter("arms", goes, at_rest(0, 5))
        turned = Matter("arms", at_rest(0, 5), goes)
        below = leaf((0, 0, -1))
        self.assertIs(judge(matter, ("first", leaf(Z), leaf(Z))), True)
        self.assertIs(judge(matter, ("second", leaf(Z), leaf(Z))), False)
        self.assertIs(judge(turned, ("second", below, below)), True)
        self.assertIs(judge(turned, ("first", below, below)), False)
        self.assertIs(judge(turned, ("second", below, leaf(Z))), False)
        self.assertIs(judge(turned, ("second", leaf(Z), below)), False)

    def test_second_is_not_accepted_with_other_kinds(self):
        for solid in (Block(ZERO, ZERO, 5), Box(ZERO, ZERO, 5), Wall(X, 5)):
            matter = Matter("shape", at_rest(100, 1), solid)
            self.assertIs(judge(matter, leaf(X)), True)
            self.assertIs(judge(matter, ("first", leaf(X), leaf(X))), True)
            self.assertIs(judge(matter, ("second", leaf(X), leaf(X))), False)
            self.assertIs(judge(matter, ("first", leaf(X), ("second", leaf(X), leaf(X)))), False)
        matter = Matter("self", folder([0, 100], [0, 100], [1, 1], [2, 0]))
        self.assertIs(judge(matter, ("first", leaf(Y), leaf(Y))), True)
        self.assertIs(judge(matter, ("second", leaf(Y), leaf(Y))), False)
        self.assertIs(judge(Matter("shape", slider(0, 0, []), Wall(X, 0)), ("second", leaf(), leaf())), False)

    def test_both_sides_of_a_mover_and_itself_are_at_the_first_part(self):
        # The ball of link 1 goes along x with that of link 3, so they stay 300 apart.
        arm = Arm([slide(0), slide(1), slide(1)], [Capsule(3, ball(ZERO, 1)), Capsule(1, ball(ZERO, 1))])
        matter = Matter("self", Mover(arm, Move(arm, [0, 300, 0], [1000, 300, 0])))
        # At the depth 3 there are 2 + 64 unknown of each one.
        self.assertEqual(matter.mover.unknowns(matter.mover.move.halves(3)), [66, 66])
        tree = leaf(Y)
        for depth in range(5):
            self.assertIs(judge(matter, tree), depth >= 2, depth)
            tree = ("first", tree, tree)

    def test_halvings_that_are_20_and_21_deep(self):
        cases = [
            (Matter("shape", at_rest(100, 1), Block(ZERO, ZERO, 5)), X, ("first",)),
            (Matter("self", folder([0, 100], [0, 100], [1, 1], [2, 0])), Y, ("first",)),
            (Matter("arms", at_rest(100, 1), at_rest(0, 1)), X, ("first",)),
            (Matter("arms", at_rest(100, 1), at_rest(0, 1)), X, ("second",)),
            (Matter("arms", at_rest(100, 1), at_rest(0, 1)), X, ("first", "second", "second")),
        ]
        for matter, way, words in cases:
            for side in (0, 1):
                tree = leaf(way)
                for depth in range(1, 24):
                    halves = (tree, leaf(way)) if side == 0 else (leaf(way), tree)
                    tree = (words[depth % len(words)],) + halves
                    self.assertIs(judge(matter, tree), depth <= 20, (matter.kind, words, side, depth))

    def test_a_very_deep_tree(self):
        tree = leaf(X)
        for _ in range(5000):
            tree = ("first", tree, leaf(X))
        self.assertIs(judge(Matter("shape", at_rest(100, 1), Block(ZERO, ZERO, 5)), tree), False)

    def test_it_is_what_the_document_tells(self):
        chance = random.Random(31)
        told = []
        for _ in range(800):
            matter = random_matter(chance, chance.choice((100, 10000, 300000, 2000000)))
            tree = self.random_tree(chance, matter, find_verdict(matter, 6).tree)
            told.append(told_judge(matter, tree))
            self.assertIs(judge(matter, tree), told[-1])
        self.assertGreater(told.count(True), 100)
        self.assertGreater(told.count(False), 100)

    def random_tree(self, chance, matter, tree):
        """Return a tree, or what has become of it by a change or two."""
        if tree is None or tree[0] == "leaf":
            if tree is None or chance.random() < 0.2:
                tree = leaf(*[tuple(chance.randint(-3, 3) for _ in range(3)) for _ in matter.pairs()])
            if chance.random() < 0.3:
                tree = (chance.choice(("first", "second")), tree, tree)
            return tree
        low, high = (self.random_tree(chance, matter, half) if chance.random() < 0.5 else half for half in tree[1:])
        return (tree[0], low, high) if chance.random() < 0.9 else (tree[0], high, low)


class TestNothingTouches(unittest.TestCase):
    def test_what_is_accepted_cannot_touch(self):
        chance = random.Random(32)
        deep = 0
        for _ in range(500):
            matter = random_matter(chance, chance.choice((30, 1000, 100000)))
            told = find_verdict(matter, 7)
            if told.word != "clear" or not matter.pairs():
                continue
            deep += told.tree[0] != "leaf"
            self.assertIs(judge(matter, told.tree), True)
            for _ in range(4):
                p, q = (chance.choice((0, 1, Fraction(chance.randint(0, 64), 64))) for _ in range(2))
                self.assertEqual(touches(chance, matter, p, q), [])
        self.assertGreater(deep, 20)

    def test_the_checks_of_these_tests_find_what_touches(self):
        body, other = (((0, 0, 0, 1), (10, 0, 0, 2), 3)), ((16, 0, 0, 2), (100, 0, 0, 1), 0)
        self.assertTrue(have_common_place(body, other))
        self.assertFalse(have_common_place(body[:2] + (2,), other))
        for solid, told in ((Block((8, 0, 0), (9, 9, 9), 0), 1), (Box((8, 0, 0), (9, 9, 9), 0), 1),
                            (Wall((-1, 0, 0), -8), 1), (Wall((-1, 0, 0), -9), 0), (Box((9, 0, 0), (9, 9, 9), 0), 0)):
            self.assertEqual(has_place_in(body, solid), bool(told))


class TestMeetings(unittest.TestCase):
    def test_two_movers_at_the_bound_and_beside_it(self):
        # 10 + 25 - 2 - (2 + 8) is 23.
        for x, told in ((-24, False), (-23, True), (0, True), (22, True), (23, True), (24, False)):
            matter = Matter("arms", at_rest(x, 10), at_rest(0, 25, error=8))
            self.assertIs(is_meeting(matter, (0, 0), (0, 0)), told)
            matter = Matter("arms", at_rest(x, 10, error=8), at_rest(0, 25))
            self.assertIs(is_meeting(matter, (0, 0), (0, 0)), told)

    def test_radii_that_are_less_than_the_unknowns(self):
        for r, s, told in ((2, 2, True), (1, 3, True), (0, 4, True), (1, 2, False), (0, 0, False), (3, 0, False)):
            self.assertIs(is_meeting(Matter("arms", at_rest(0, r), at_rest(0, s)), (0, 0), (0, 0)), told)
        self.assertIs(is_meeting(Matter("arms", at_rest(1, 2), at_rest(0, 2)), (0, 0), (0, 0)), False)
        # The gap is less than what is missing, without its sign.
        self.assertIs(is_meeting(Matter("arms", at_rest(1, 0), at_rest(0, 0)), (0, 0), (0, 0)), False)

    def test_a_mover_and_itself(self):
        for y, told in ((11, True), (12, False)):
            matter = Matter("self", folder([0, y], [0, y], [10, 5], [2, 0]))
            self.assertIs(is_meeting(matter, (0, 0), (0, 0)), told)
        self.assertIs(is_meeting(Matter("self", folder([0, 0], [0, 0], [9, 9], [1, 2])), (0, 0), (0, 0)), False)

    def test_solids_at_the_bound_and_beside_it(self):
        # 10 - 2 + 5 is 13.
        for x, told in ((-14, False), (-13, True), (13, True), (14, False)):
            for solid in (Block(ZERO, ZERO, 5), Box(ZERO, ZERO, 5)):
                self.assertIs(is_meeting(Matter("shape", at_rest(x, 10), solid), (0, 0), (0, 0)), told)
        for x, told in ((-100, True), (5, True), (6, False)):
            self.assertIs(is_meeting(Matter("shape", at_rest(x, 10), Wall(X, 5)), (0, 0), (0, 0)), told)

    def test_solids_and_a_radius_that_is_less_than_the_unknown(self):
        for radius, told in ((2, True), (1, False)):
            self.assertIs(is_meeting(Matter("shape", at_rest(0, radius), Wall(X, 5)), (0, 0), (0, 0)), told)
        for solid in (Block(ZERO, ZERO, 1), Box(ZERO, ZERO, 1)):
            for radius, told in ((1, True), (0, False)):
                self.assertIs(is_meeting(Matter("shape", at_rest(0, radius), solid), (0, 0), (0, 0)), told)

    def test_the_unknown_is_that_for_the_slacks(self):
        # In the middle the ball is at x = 500, and its unknown is 3, not 503.
        for x, told in ((512, True), (513, False)):
            matter = above(Block((x, 0, 0), (x, 0, 0), 5), 0)
            self.assertIs(is_meeting(matter, (0, 0), (0, 0)), told)
            matter = Matter("arms", slider(0, 1000, [ball(ZERO, 10)]), at_rest(x, 7))
            self.assertIs(is_meeting(matter, (0, 0), (0, 0)), told)

    def test_some_pair(self):
        mover = slider(0, 0, [ball((0, 900, 0), 9), ball(ZERO, 9)], [ball((0, 0, 900), 9)])
        self.assertIs(is_meeting(Matter("shape", mover, Block(ZERO, ZERO, 1)), (0, 0), (0, 0)), True)
        self.assertIs(is_meeting(Matter("shape", mover, Block((900, 0, 0), (900, 0, 0), 1)), (0, 0), (0, 0)), False)
        for other in (at_rest(0, 9), slider(0, 0, [ball((900, 0, 0), 9), ball((0, 0, 900), 9)])):
            self.assertIs(is_meeting(Matter("arms", mover, other), (0, 0), (0, 0)), True)
        self.assertIs(is_meeting(Matter("shape", slider(0, 0, []), Wall(X, 9)), (0, 0), (0, 0)), False)

    def test_the_parts_tell_where_the_movers_are(self):
        matter = above(Block((125, 0, 0), (125, 0, 0), 5), 0)
        self.assertEqual([at for at in range(4) if is_meeting(matter, (2, at), (0, 0))], [0])
        self.assertEqual([at for at in range(8) if is_meeting(matter, (3, at), (0, 0))], [])
        matter = Matter("arms", slider(0, 1000, [ball(ZERO, 10)]), slider(1000, 0, [ball(ZERO, 10)]))
        found = [(a, b) for a in range(4) for b in range(4) if is_meeting(matter, (2, a), (2, b))]
        self.assertEqual(found, [(0, 3), (1, 2), (2, 1), (3, 0)])
        self.assertIs(is_meeting(matter, (0, 0), (0, 0)), True)
        self.assertIs(is_meeting(matter, (0, 0), (1, 0)), False)

    def test_a_mover_and_itself_at_parts(self):
        matter = Matter("self", folder([0, 0], [0, 800], [10, 5], [2, 0]))
        self.assertEqual([at for at in range(64) if is_meeting(matter, (6, at), (0, 0))], [0])

    def test_parts_that_exist(self):
        rest = at_rest(0, 9)
        matter = Matter("arms", rest, rest)
        for part in ((0, 0), (1, 0), (1, 1), (5, 31), (20, 0), (20, 2 ** 20 - 1)):
            self.assertIs(is_meeting(matter, part, (0, 0)), True)
            self.assertIs(is_meeting(matter, (0, 0), part), True)
            self.assertIs(is_meeting(matter, part, part), True)

    def test_parts_that_do_not_exist(self):
        rest = at_rest(0, 9)
        bad = ((0, 1), (0, -1), (1, 2), (1, -1), (5, 32), (20, 2 ** 20), (20, -1))
        bad += ((21, 0), (21, 2 ** 20), (22, 5), (-1, 0), (-1, 1), (-20, 0))
        for part in bad:
            for matter in (Matter("arms", rest, rest), Matter("shape", rest, Block(ZERO, ZERO, 9))):
                self.assertIs(is_meeting(matter, part, (0, 0)), False)
                self.assertIs(is_meeting(matter, (0, 0), part), False)

    def test_a_second_part_is_the_whole_move_except_with_two_movers(self):
        rest = at_rest(0, 9)
        self_matter = Matter("self", folder([0, 0], [0, 0], [10, 5], [2, 0]))
        for matter in [self_matter] + [
            Matter("shape", rest, solid) for solid in (Block(ZERO, ZERO, 9), Box(ZERO, ZERO, 9), Wall(X, 0))
        ]:
            for part in ((0, 0), (1, 1), (20, 5)):
                self.assertIs(is_meeting(matter, part, (0, 0)), True)
                self.assertIs(is_meeting(matter, part, (1, 0)), False)
                self.assertIs(is_meeting(matter, part, (1, 1)), False)
                self.assertIs(is_meeting(matter, part, (20, 5)), False)

    def test_what_surely_meets_touches_wherever_the_arms_truly_are(self):
        chance = random.Random(33)
        met = 0
        for _ in range(600):
            matter = random_matter(chance, chance.choice((30, 1000, 100000)))
            parts = []
            for _ in range(2):
                depth = chance.randint(0, 4)
                parts.append((depth, chance.randrange(2 ** depth)))
            if matter.kind != "arms":
                parts[1] = (0, 0)
            if not is_meeting(matter, *parts):
                continue
            met += 1
            p, q = (Fraction(2 * at + 1, 2 ** (depth + 1)) for depth, at in parts)
            always = [touches(chance, matter, p, q) for _ in range(4)]
            self.assertTrue(any(all(pair in told for told in always) for pair in matter.pairs()))
        self.assertGreater(met, 20)


if __name__ == "__main__":
    unittest.main()
