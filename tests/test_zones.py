"""Points [47] to [51]: extents, zones, fences and how far somebody walks."""
import random
import unittest
from fractions import Fraction
from math import ceil, isqrt

from things import ZERO, TrueMover, ball, folder, on_scale, random_mover, slider

from armwarrant.arms.arm import Arm, Body, Capsule
from armwarrant.arms.frames import spot, unknown
from armwarrant.arms.joints import Joint
from armwarrant.arms.moves import Move
from armwarrant.errors import ArmwarrantError, InvalidShape, OutOfRange
from armwarrant.judge.finding import find_verdict
from armwarrant.judge.matters import Matter, Mover
from armwarrant.judge.solids import Wall
from armwarrant.people.zones import extent, is_fenced, walked, zone

X, Y, Z = (1, 0, 0), (0, 1, 0), (0, 0, 1)
MOST = 10 ** 9


def length_of(way):
    square = sum(c * c for c in way)
    root = isqrt(square)
    return root if root * root == square else root + 1


def told_extent(mover, way, depth):
    """Return the extent as points [47] and [48] tell it."""
    reaches = []
    for at in range(2 ** depth):
        row = mover.move.middle((depth, at))
        for link, body in mover.bodies():
            ends = [spot(mover.arm, row, link, end) for end in (body.first, body.last)]
            far = max(sum(a * b for a, b in zip(way, end)) for end in ends)
            room = body.radius + unknown(mover.arm, mover.move.halves(depth), link, body)
            reaches.append(far + length_of(way) * room)
    return max(reaches, default=None)


def random_way(chance, size=1000):
    way = ZERO
    while way == ZERO:
        way = tuple(chance.randint(-size, size) for _ in range(3))
    return way


def turner(first, last, radius=1):
    """Return a mover with a ball that turns about z, at the place (10, 0, 0) at the value 0; its unknown is 3."""
    arm = Arm([Joint(True, 2, ZERO, -1000000, 1000000)], [Capsule(1, ball((10, 0, 0), radius))])
    return Mover(arm, Move(arm, [first], [last]))


class ZoneCase(unittest.TestCase):
    def check_range(self, field, ask, *values):
        self.check_error(OutOfRange, field, ask, *values)

    def check_shape(self, field, ask, *values):
        self.check_error(InvalidShape, field, ask, *values)

    def check_error(self, error, field, ask, *values):
        with self.subTest(values=values[1:]):
            with self.assertRaises(error) as caught:
                ask(*values)
            self.assertEqual(caught.exception.field, field)
            self.assertIsInstance(caught.exception, ArmwarrantError)


class TestExtent(ZoneCase):
    def test_a_rest(self):
        mover = slider(100, 100, [Body((0, 0, 0), (30, -40, 7), 10)], error=5)
        # The unknown is 2 + 5.
        for way, told in ((X, 147), ((-1, 0, 0), -83), (Y, 17), ((0, -1, 0), 57), (Z, 24), ((3, 4, 0), 385)):
            for depth in (0, 1, 8):
                self.assertEqual(extent(mover, way, depth), told)

    def test_the_length_of_a_direction_is_rounded_up(self):
        mover = slider(0, 0, [ball(ZERO, 10)])
        self.assertEqual(extent(mover, (1, 1, 0), 0), 24)
        self.assertEqual(extent(mover, (1, 1, 1), 0), 24)
        self.assertEqual(extent(mover, (2, 2, 1), 0), 36)

    def test_the_greatest_reach_over_the_parts(self):
        mover = slider(0, 1000, [ball(ZERO, 10)])
        # The middle of the last part, and 2 and the half and 10.
        for depth, told in ((0, 500 + 513), (1, 750 + 263), (2, 875 + 138), (8, 998 + 15)):
            self.assertEqual(extent(mover, X, depth), told)
        # That of the first part.
        for depth, told in ((0, -500 + 513), (1, -250 + 263), (8, -1 + 15)):
            self.assertEqual(extent(mover, (-1, 0, 0), depth), told)
        mover = slider(1000, 0, [ball(ZERO, 10)])
        self.assertEqual([extent(mover, X, depth) for depth in (0, 1, 8)], [1013, 1013, 1013])

    def test_a_part_in_the_middle(self):
        # The ball is farthest along x in the middle of the move.
        mover = turner(-200000, 200000)
        self.assertEqual(extent(mover, X, 0), 10 + 1 + 2 + 5)
        self.assertEqual(extent(mover, X, 3), 9 + 1 + 3)
        mover = turner(-400000, 300000)
        for depth in range(9):
            self.assertEqual(extent(mover, X, depth), told_extent(mover, X, depth))

    def test_the_greatest_reach_over_the_bodies(self):
        bodies = [ball((0, 0, 50), 1), ball((0, 40, 0), 30), Body((0, 0, 9), (0, 0, -60), 4)]
        mover = slider(0, 0, bodies, [ball((70, 0, 0), 2)])
        for way, told in ((X, 74), (Y, 72), (Z, 53), ((0, 0, -1), 66), ((-1, 0, 0), 32), ((0, -1, 0), 6)):
            self.assertEqual(extent(mover, way, 0), told)

    def test_each_body_with_its_own_unknown(self):
        arm = Arm([Joint(False, 0, ZERO, -9999, 9999, error=100)], [
            Capsule(0, ball((0, 0, 50), 10)), Capsule(1, ball(ZERO, 10)),
        ])
        mover = Mover(arm, Move(arm, [0], [0]))
        self.assertEqual(extent(mover, Z, 0), 112)
        self.assertEqual(extent(Mover(Arm(arm.joints, arm.capsules[:1]), mover.move), Z, 0), 62)

    def test_without_bodies(self):
        for depth in (0, 8):
            self.assertIsNone(extent(slider(0, 1000, []), X, depth))

    def test_directions_out_of_range(self):
        for mover in (slider(0, 1000, [ball(ZERO, 10)]), slider(0, 0, [])):
            self.check_range("direction", extent, mover, ZERO, 0)
            for k in range(3):
                for c in (1001, -1001):
                    way = tuple(c if n == k else 1 for n in range(3))
                    self.check_range("direction", extent, mover, way, 0)
                for c in (1000, -1000):
                    extent(mover, tuple(c if n == k else 0 for n in range(3)), 0)
        self.assertEqual(extent(slider(0, 0, [ball(ZERO, 8)]), (1000, -1000, 1000), 0), 17330)

    def test_depths_out_of_range(self):
        for mover in (slider(0, 1000, [ball(ZERO, 10)]), slider(0, 0, [])):
            for depth in (-1, 9, 20):
                self.check_range("depth", extent, mover, X, depth)
                self.check_range("direction", extent, mover, ZERO, depth)
                self.check_range("direction", extent, mover, (0, 0, 1001), depth)

    def test_it_is_what_the_document_tells(self):
        chance = random.Random(48)
        for _ in range(300):
            mover, way, depth = random_mover(chance, 3000), random_way(chance), chance.choice((0, 1, 2, 4))
            self.assertEqual(extent(mover, way, depth), told_extent(mover, way, depth))

    def test_no_true_place_is_beyond_the_extent(self):
        chance = random.Random(49)
        nearest = 1
        for _ in range(300):
            mover, way, depth = random_mover(chance, 3000), random_way(chance), chance.choice((0, 2, 4))
            told = extent(mover, way, depth)
            for p in (0, 1, Fraction(chance.randint(0, 99), 99)):
                for *ends, radius in TrueMover(chance, mover, p).bodies:
                    scale, places = on_scale(ends)
                    far = max(sum(a * b for a, b in zip(way, place)) for place in places)
                    # The farthest place of the body is the radius along the way from its end.
                    room = Fraction(told) - Fraction(far, scale)
                    self.assertGreaterEqual(room, 0)
                    self.assertGreaterEqual(room * room, sum(c * c for c in way) * radius * radius)
                    nearest = min(nearest, room / (1 + abs(told)))
        self.assertLess(nearest, Fraction(1, 10))


class TestZone(ZoneCase):
    def test_several_directions(self):
        mover = slider(0, 1000, [ball(ZERO, 10)])
        self.assertEqual(zone(mover, [X, (-1, 0, 0), (3, 4, 0)], 0, 0), [1014, 14, 1500 + 5 * 513 + 1])
        self.assertEqual(zone(mover, [(3, 4, 0), X], 100, 1), [2250 + 5 * 263 + 501, 1114])
        self.assertEqual(zone(mover, [X, X], 7, 2), [1021, 1021])
        self.assertEqual(zone(mover, [], 7, 2), [])
        self.assertIs(type(zone(mover, (X, Y), 7, 2)), list)

    def test_the_length_by_the_margin_is_rounded_up(self):
        mover = slider(0, 0, [ball(ZERO, 10)])
        self.assertEqual(zone(mover, [(1, 1, 0)], 1000, 0), [24 + 2000 + 1])

    def test_without_bodies(self):
        self.assertEqual(zone(slider(0, 1000, []), [X, Y, Z], 5, 3), [None, None, None])
        self.assertEqual(zone(slider(0, 1000, []), [], 5, 3), [])

    def test_margins_at_their_bounds(self):
        mover = slider(0, 0, [ball(ZERO, 10)])
        self.assertEqual(zone(mover, [X], 0, 0), [13])
        self.assertEqual(zone(mover, [X], MOST, 0), [MOST + 13])

    def test_errors_in_their_order(self):
        for mover in (slider(0, 0, [ball(ZERO, 10)]), slider(0, 0, [])):
            for margin in (-1, MOST + 1):
                self.check_range("margin", zone, mover, [X], margin, 0)
                self.check_range("margin", zone, mover, [ZERO], margin, 9)
                self.check_range("margin", zone, mover, [], margin, 9)
            for way in (ZERO, (1001, 0, 0), (0, -1001, 5)):
                self.check_range("direction", zone, mover, [way], 0, 0)
                self.check_range("direction", zone, mover, [X, way], 0, 0)
                self.check_range("direction", zone, mover, [way, X], MOST, -1)
                self.check_range("direction", zone, mover, [X, way], MOST, 9)
            for depth in (-1, 9):
                self.check_range("depth", zone, mover, [X, Y], 0, depth)
            zone(mover, [X, Y], 0, 8)

    def test_it_is_the_extent_and_the_margin(self):
        chance = random.Random(50)
        for _ in range(100):
            mover, depth, margin = random_mover(chance, 3000), chance.choice((0, 1, 3)), chance.randint(0, 9999)
            ways = [random_way(chance) for _ in range(3)]
            extents = [told_extent(mover, way, depth) for way in ways]
            self.assertEqual(zone(mover, ways, margin, depth), [
                None if far is None else far + length_of(way) * margin + 1 for way, far in zip(ways, extents)
            ])


class TestFenced(ZoneCase):
    def shown(self, mover, way, bound, margin, depth):
        """Return True if the finder alone shows it."""
        wall = Wall(tuple(-c for c in way), length_of(way) * margin - bound)
        return find_verdict(Matter("shape", mover, wall), depth).word == "clear"

    def test_the_bounds_of_a_zone_and_smaller_and_greater_ones(self):
        chance = random.Random(51)
        for _ in range(80):
            mover, margin, depth = random_mover(chance, 2000), chance.choice((0, 1, 500)), chance.choice((0, 2, 4))
            ways = [random_way(chance, 30) for _ in range(3)]
            bounds = zone(mover, ways, margin, depth)
            if None in bounds:
                continue
            self.assertIs(is_fenced(mover, list(zip(ways, bounds)), margin, depth), True)
            for more in (1, 50, 10 ** 6):
                self.assertIs(is_fenced(mover, [(w, b + more) for w, b in zip(ways, bounds)], margin, depth), True)
            for way, bound in zip(ways, bounds):
                self.assertIs(is_fenced(mover, [(way, bound - 9 * 10 ** 6)], margin, depth), False)

    def test_at_the_bound_and_one_below(self):
        # A rest: no halving makes it better.
        mover = slider(100, 100, [ball(ZERO, 10)])
        cases = ((X, 113, 0), ((-1, 0, 0), -87, 0), (X, 118, 5), ((3, 4, 0), 361, 0), (X, 100113, 100000))
        for way, bound, margin in cases:
            for depth in (0, 3, 8):
                self.assertIs(is_fenced(mover, [(way, bound)], margin, depth), True)
                self.assertIs(is_fenced(mover, [(way, bound + 1)], margin, depth), True)
                self.assertIs(is_fenced(mover, [(way, bound - 1)], margin, depth), False)

    def test_each_side_counts(self):
        mover = slider(0, 100, [ball(ZERO, 10)])
        good, other = (X, 5000), ((-1, 0, 0), 5000)
        self.assertIs(is_fenced(mover, [good, other, (Y, 5000)], 9, 3), True)
        for bad in ((X, 50), ((-1, 0, 0), -50), (Z, 0)):
            for sides in ([bad], [bad, good], [good, bad], [good, other, bad], [good, bad, other]):
                self.assertIs(is_fenced(mover, sides, 9, 3), False)

    def test_without_sides_or_bodies(self):
        self.assertIs(is_fenced(slider(0, 100, [ball(ZERO, 10)]), [], 5, 3), True)
        for depth in (0, 8):
            self.assertIs(is_fenced(slider(0, 100, []), [(X, -99999), ((-1, 0, 0), -99999)], 5, depth), True)

    def test_shown_by_the_finder_alone(self):
        # Of the five pairs of parts three are leaves; where they are not as deep as they could be, less is rounded.
        mover, way = folder([8, -1], [5, 3], [1], [2]), (3, 2, 0)
        self.assertEqual([extent(mover, way, depth) for depth in range(3)], [56, 49, 48])
        for bound, told in ((47, False), (48, True), (49, True)):
            self.assertIs(self.shown(mover, way, bound, 0, 2), told)
            self.assertIs(is_fenced(mover, [(way, bound)], 0, 2), told)
        # Without the second halving it is an even tree of the depth 1 that counts.
        for bound, told in ((49, False), (50, True)):
            self.assertIs(is_fenced(mover, [(way, bound)], 0, 1), told)

    def test_shown_by_an_even_tree_alone(self):
        # In the middle of the move the ball is at x = 10, so it is not surely apart there with a bound of 14. In the
        # middle of its halves it is at 9.99.., which is rounded down.
        mover = turner(-10000, 10000)
        self.assertEqual(mover.lines((0, 0))[0][0][0], 10)
        self.assertEqual([mover.lines((1, at))[0][0][0] for at in (0, 1)], [9, 9])
        for depth in (0, 1, 2, 8):
            self.assertFalse(self.shown(mover, X, 14, 0, depth))
            self.assertIs(is_fenced(mover, [(X, 14)], 0, depth), depth >= 1)
            self.assertIs(is_fenced(mover, [(X, 15)], 0, depth), True)
            self.assertIs(is_fenced(mover, [(X, 13)], 0, depth), False)

    def test_it_is_what_the_document_tells(self):
        chance = random.Random(52)
        for _ in range(150):
            first, last = ([chance.randint(-9, 9) for _ in range(2)] for _ in range(2))
            mover, way = folder(first, last, [1], [2]), random_way(chance, 3)
            depth, margin = chance.choice((0, 1, 2, 3)), chance.choice((0, 1, 30))
            extents = [told_extent(mover, way, even) for even in range(depth + 1)]
            for bound in range(min(extents) + length_of(way) * margin - 3, max(extents) + length_of(way) * margin + 3):
                even = min(extents) + length_of(way) * margin < bound
                told = even or self.shown(mover, way, bound, margin, depth)
                self.assertIs(is_fenced(mover, [(way, bound)], margin, depth), told)

    def test_errors_in_their_order(self):
        mover = slider(0, 100, [ball(ZERO, 10)])
        bad = [(ZERO, 0)]
        for margin in (-1, MOST + 1):
            for depth in (0, 9):
                self.check_range("margin", is_fenced, mover, bad, margin, depth)
                self.check_range("margin", is_fenced, mover, [], margin, depth)
        for depth in (-1, 9):
            self.check_range("depth", is_fenced, mover, bad, 0, depth)
            self.check_range("depth", is_fenced, mover, [], MOST, depth)
        self.check_shape("normal", is_fenced, mover, bad, 0, 0)
        self.check_shape("normal", is_fenced, mover, [((1001, 0, 0), 10 ** 12)], MOST, 8)
        self.check_shape("bound", is_fenced, mover, [(X, 10 ** 11 + 1)], 0, 8)
        self.check_shape("bound", is_fenced, mover, [((1000, 0, 0), 0)], MOST, 0)
        # 1000 times the margin, minus the bound, is just not too great.
        self.assertIs(is_fenced(mover, [((1000, 0, 0), 10 ** 12 - 10 ** 11)], MOST, 0), False)
        self.check_shape("bound", is_fenced, mover, [((1000, 0, 0), 10 ** 12 - 10 ** 11 - 1)], MOST, 0)
        self.assertIs(is_fenced(mover, [(X, 10 ** 11)], 0, 0), True)

    def test_sides_are_looked_at_as_long_as_each_one_is_shown(self):
        mover = slider(0, 100, [ball(ZERO, 10)])
        good, not_shown, no_normal, no_bound = (X, 5000), (X, 0), (ZERO, 0), (X, 10 ** 11 + 1)
        self.check_shape("normal", is_fenced, mover, [good, no_normal, no_bound, not_shown], 0, 2)
        self.check_shape("bound", is_fenced, mover, [good, good, no_bound, no_normal], 0, 2)
        self.check_shape("bound", is_fenced, mover, [no_bound, not_shown], 0, 2)
        for wrong in (no_normal, no_bound):
            self.assertIs(is_fenced(mover, [not_shown, wrong], 0, 2), False)
            self.assertIs(is_fenced(mover, [good, not_shown, wrong], 0, 2), False)

    def test_who_enters_a_fenced_zone_is_a_margin_away(self):
        chance = random.Random(53)
        shown = 0
        for _ in range(150):
            mover, way, margin = random_mover(chance, 2000), random_way(chance, 9), chance.choice((0, 40, 3000))
            bound = chance.randint(0, 60000)
            if not is_fenced(mover, [(way, bound)], margin, 3):
                continue
            shown += 1
            for *ends, radius in TrueMover(chance, mover, Fraction(chance.randint(0, 9), 9)).bodies:
                scale, places = on_scale(ends)
                for place in places:
                    room = bound - Fraction(sum(a * b for a, b in zip(way, place)), scale)
                    self.assertGreater(room, 0)
                    self.assertGreater(room * room, sum(c * c for c in way) * (radius + margin) ** 2)
        self.assertGreater(shown, 30)


class TestWalked(ZoneCase):
    def test_rounded_up(self):
        for speed, micros, told in (
            (0, 0, 0), (0, MOST, 0), (MOST, 0, 0), (1, 1, 1), (1, 1000000, 1), (1, 1000001, 2), (2, 500000, 1),
            (2, 500001, 2), (1600000, 300000, 480000), (1600000, 300001, 480002), (3, 333333, 1), (3, 333334, 2),
            (MOST, MOST, 10 ** 12), (MOST, 1, 1000), (999999999, 1, 1000),
        ):
            self.assertEqual(walked(speed, micros), told)
            self.assertEqual(walked(micros, speed), told)

    def test_it_is_the_least_integer_that_is_not_less(self):
        chance = random.Random(54)
        for _ in range(200):
            speed, micros = (chance.randint(0, 10 ** chance.randint(0, 9)) for _ in range(2))
            self.assertEqual(walked(speed, micros), ceil(Fraction(speed * micros, 10 ** 6)))

    def test_errors_in_their_order(self):
        for wrong in (-1, MOST + 1):
            self.check_range("speed", walked, wrong, 0)
            self.check_range("micros", walked, 0, wrong)
            for other in (-1, MOST + 1):
                self.check_range("speed", walked, wrong, other)
        self.assertEqual(walked(MOST, MOST), 10 ** 12)


if __name__ == "__main__":
    unittest.main()
