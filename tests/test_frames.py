"""Points [16] and [19] to [22]: true places, spots, and how far the one can be from the other."""
import math
import random
import unittest
from fractions import Fraction

from armwarrant.arms.arm import Arm, Body
from armwarrant.arms.frames import spot, true_place, unknown
from armwarrant.arms.joints import Joint

ZERO = (0, 0, 0)
HERE = (0, 0, 0, 1)
MILLION = 1000000


def turning(axis, offset=ZERO, **others):
    return Joint(True, axis, offset, -8000000, 8000000, **others)


def sliding(axis, offset=ZERO, least=-10000000, most=10000000, **others):
    return Joint(False, axis, offset, least, most, **others)


def arm_of(*joints):
    return Arm(joints, [])


def place_as_told(arm, values, offsets, link, point):
    """Return the place as point [19] tells it, with fractions, each axis on its own."""
    x, y, z = (Fraction(c) for c in point)
    for k in range(link, 0, -1):
        joint = arm.joints[k - 1]
        value = Fraction(*values[k - 1])
        if joint.turns:
            t = value / MILLION
            cosine, sine = (1 - t * t) / (1 + t * t), 2 * t / (1 + t * t)
            if joint.axis == 0:
                y, z = y * cosine - z * sine, y * sine + z * cosine
            elif joint.axis == 1:
                z, x = z * cosine - x * sine, z * sine + x * cosine
            else:
                x, y = x * cosine - y * sine, x * sine + y * cosine
        else:
            x, y, z = (c + value if at == joint.axis else c for at, c in enumerate((x, y, z)))
        scale = offsets[k - 1][3]
        x, y, z = (c + Fraction(d, scale) for c, d in zip((x, y, z), offsets[k - 1]))
    return (x, y, z)


def random_arm(chance):
    joints = []
    for _ in range(chance.randint(1, 6)):
        offset = tuple(chance.randint(-900000, 900000) for _ in range(3))
        errors = dict(box=chance.choice((0, 0, 3, 2000)), error=chance.choice((0, 0, 5, 3000)))
        if chance.random() < 0.7:
            joints.append(turning(chance.randrange(3), offset, **errors))
        else:
            joints.append(sliding(chance.randrange(3), offset, -700000, 500000, **errors))
    return arm_of(*joints)


class TestTruePlace(unittest.TestCase):
    def check(self, joints, values, offsets, link, point, place):
        found = true_place(arm_of(*joints), values, offsets, link, point)
        self.assertEqual(found, place)
        self.assertIs(type(found), tuple)

    def test_the_base_does_not_move(self):
        self.check([turning(0)], [(MILLION, 1)], [(5, 6, 7, 1)], 0, (2, 4, -6), (2, 4, -6, 1))
        self.check([sliding(0)], [(MILLION, 1)], [(5, 6, 7, 1)], 0, ZERO, (0, 0, 0, 1))

    def test_a_quarter_turn_about_each_axis(self):
        for axis, place in ((0, (1, -3, 2, 1)), (1, (3, 2, -1, 1)), (2, (-2, 1, 3, 1))):
            self.check([turning(axis)], [(MILLION, 1)], [HERE], 1, (1, 2, 3), place)

    def test_a_quarter_turn_back_about_each_axis(self):
        for axis, place in ((0, (1, 3, -2, 1)), (1, (-3, 2, 1, 1)), (2, (2, -1, 3, 1))):
            self.check([turning(axis)], [(-MILLION, 1)], [HERE], 1, (1, 2, 3), place)

    def test_half_a_tangent_of_one_half(self):
        # The cosine is 3 / 5, the sine 4 / 5.
        self.check([turning(0)], [(500000, 1)], [HERE], 1, (10, 5, 5), (10, -1, 7, 1))
        self.check([turning(1)], [(500000, 1)], [HERE], 1, (10, 10, 5), (10, 10, -5, 1))
        self.check([turning(2)], [(500000, 1)], [HERE], 1, (10, 10, 5), (-2, 14, 5, 1))

    def test_a_turn_to_a_place_between(self):
        self.check([turning(2)], [(500000, 1)], [HERE], 1, (1, 0, 0), (3, 4, 0, 5))
        self.check([turning(2)], [(-500000, 1)], [HERE], 1, (1, 0, 0), (3, -4, 0, 5))
        self.check([turning(2)], [(2 * MILLION, 1)], [HERE], 1, (1, 0, 0), (-3, 4, 0, 5))

    def test_no_turn(self):
        for axis in range(3):
            self.check([turning(axis)], [(0, 7)], [HERE], 1, (1, -2, 3), (1, -2, 3, 1))

    def test_a_turn_by_a_value_that_is_a_fraction(self):
        self.check([turning(2)], [(MILLION, 2)], [HERE], 1, (5, 0, 1), (3, 4, 1, 1))
        self.check([turning(2)], [(1, 2)], [HERE], 1, (1, 0, 0), (3999999999999, 4000000, 0, 4000000000001))

    def test_slides_along_each_axis(self):
        for axis, place in ((0, (8, 2, 3, 1)), (1, (1, 9, 3, 1)), (2, (1, 2, 10, 1))):
            self.check([sliding(axis)], [(7, 1)], [HERE], 1, (1, 2, 3), place)
        for axis, place in ((0, (-6, 2, 3, 1)), (1, (1, -5, 3, 1)), (2, (1, 2, -4, 1))):
            self.check([sliding(axis)], [(-7, 1)], [HERE], 1, (1, 2, 3), place)

    def test_a_slide_by_a_value_that_is_a_fraction(self):
        self.check([sliding(0)], [(7, 2)], [HERE], 1, (1, 2, 3), (9, 4, 6, 2))
        self.check([sliding(0)], [(-7, 3)], [HERE], 1, (1, 2, 3), (-4, 6, 9, 3))

    def test_offsets_are_added(self):
        self.check([sliding(0)], [(0, 1)], [(1, -2, 30, 1)], 1, (1, 2, 3), (2, 0, 33, 1))
        self.check([turning(2)], [(MILLION, 1)], [(1, -2, 3, 4)], 1, (1, 2, 3), (-7, 2, 15, 4))

    def test_what_is_not_in_lowest_terms(self):
        self.check([turning(2)], [(3 * MILLION, 6)], [(4, 8, -12, 4)], 1, (5, 0, 1), (4, 6, -2, 1))
        self.check([sliding(1)], [(6, 4)], [(2, 4, 6, 4)], 1, (0, 0, 0), (1, 5, 3, 2))
        self.check([sliding(1)], [(-6, 4)], [(-2, 0, 0, 4)], 1, (0, 0, 0), (-1, -3, 0, 2))

    def test_joints_one_after_another(self):
        joints = [turning(2), sliding(0)]
        values, offsets = [(MILLION, 1), (5, 1)], [(100, 0, 0, 1), (0, 50, 0, 1)]
        self.check(joints, values, offsets, 2, (1, 2, 3), (48, 6, 3, 1))
        self.check(joints, values, offsets, 1, (1, 2, 3), (98, 1, 3, 1))
        self.check(joints, values, offsets, 0, (1, 2, 3), (1, 2, 3, 1))

    def test_the_told_offsets_and_ranges_do_not_count(self):
        joints = [sliding(0, (9, 9, 9), 0, 1)]
        self.check(joints, [(7, 1)], [HERE], 1, (1, 2, 3), (8, 2, 3, 1))

    def test_it_is_what_the_document_tells_in_lowest_terms(self):
        chance = random.Random(19)
        for _ in range(200):
            arm = random_arm(chance)
            size = chance.choice((4, 8000000))
            values = [(chance.randint(-size, size), chance.randint(1, 6)) for _ in arm.joints]
            offsets = [
                tuple(chance.randint(-size, size) for _ in range(3)) + (chance.randint(1, 6),) for _ in arm.joints
            ]
            link = chance.randint(0, len(arm.joints))
            point = tuple(chance.randint(-size, size) for _ in range(3))
            x, y, z, scale = true_place(arm, values, offsets, link, point)
            self.assertGreater(scale, 0)
            self.assertEqual(math.gcd(x, y, z, scale), 1)
            told = place_as_told(arm, values, offsets, link, point)
            self.assertEqual((Fraction(x, scale), Fraction(y, scale), Fraction(z, scale)), told)

    def test_arguments_stay_as_they_are(self):
        values, offsets = [(MILLION, 1), (5, 1)], [(100, 0, 0, 1), (0, 50, 0, 1)]
        true_place(arm_of(turning(2), sliding(0)), values, offsets, 2, (1, 2, 3))
        self.assertEqual(values, [(MILLION, 1), (5, 1)])
        self.assertEqual(offsets, [(100, 0, 0, 1), (0, 50, 0, 1)])


class TestSpot(unittest.TestCase):
    def test_rounded_down(self):
        arm = arm_of(turning(2))
        self.assertEqual(spot(arm, [500000], 1, (1, 0, 0)), (0, 0, 0))
        self.assertEqual(spot(arm, [500000], 1, (3, 0, 0)), (1, 2, 0))
        self.assertEqual(spot(arm, (500000,), 1, (-1, 0, 7)), (-1, -1, 7))
        self.assertEqual(spot(arm, [-500000], 1, (3, 0, -7)), (1, -3, -7))

    def test_exact_places(self):
        arm = arm_of(turning(2))
        self.assertEqual(spot(arm, [500000], 1, (-5, 0, 1)), (-3, -4, 1))
        self.assertEqual(spot(arm, [0], 1, (-5, 3, 1)), (-5, 3, 1))

    def test_the_told_offsets_count(self):
        arm = arm_of(turning(2, (100, 0, 7)), sliding(0, (0, 50, -9)))
        self.assertEqual(spot(arm, [MILLION, 5], 2, (1, 2, 3)), (48, 6, 1))
        self.assertEqual(spot(arm, [MILLION, 5], 1, (1, 2, 3)), (98, 1, 10))
        self.assertEqual(spot(arm, [MILLION, 5], 0, (1, 2, 3)), (1, 2, 3))

    def test_the_result_is_a_tuple(self):
        self.assertIs(type(spot(arm_of(turning(2)), [500000], 1, (1, 0, 0))), tuple)
        self.assertIs(type(spot(arm_of(turning(2)), [500000], 0, (1, 0, 0))), tuple)

    def test_it_is_the_true_place_rounded_down(self):
        chance = random.Random(20)
        for _ in range(200):
            arm = random_arm(chance)
            row = [chance.randint(joint.least, joint.most) for joint in arm.joints]
            link = chance.randint(0, len(arm.joints))
            point = tuple(chance.randint(-900000, 900000) for _ in range(3))
            values = [(value, 1) for value in row]
            offsets = [joint.offset + (1,) for joint in arm.joints]
            x, y, z, scale = true_place(arm, values, offsets, link, point)
            self.assertEqual(spot(arm, row, link, point), (x // scale, y // scale, z // scale))


class TestUnknown(unittest.TestCase):
    def check(self, joints, halves, link, first, last, found):
        self.assertEqual(unknown(arm_of(*joints), halves, link, Body(first, last, 5)), found)

    def test_the_base(self):
        self.check([turning(0, box=9, error=9)], [100], 0, (9, 9, 9), ZERO, 2)

    def test_a_joint_that_turns(self):
        # The lever is 300: 2 * 300 * 10000 / 1000000 is 6.
        self.check([turning(0)], [10000], 1, (300, 0, 0), ZERO, 8)
        self.check([turning(0)], [10001], 1, (300, 0, 0), ZERO, 9)
        self.check([turning(0)], [9999], 1, (300, 0, 0), ZERO, 8)
        self.check([turning(0)], [0], 1, (300, 0, 0), ZERO, 2)
        self.check([turning(0, error=4000)], [6000], 1, (300, 0, 0), ZERO, 8)
        self.check([turning(0, error=4001)], [6000], 1, (300, 0, 0), ZERO, 9)

    def test_the_lever_is_the_greater_length_rounded_up(self):
        # 2 * 8 * 62500 / 1000000 is 1 to the digit, 9 would give 2.
        self.check([turning(0)], [62500], 1, ZERO, (0, 8, 0), 3)
        self.check([turning(0)], [62500], 1, (0, 0, -8), ZERO, 3)
        self.check([turning(0)], [62500], 1, ZERO, (0, 8, 1), 4)
        self.check([turning(0)], [62500], 1, (1, 8, 0), ZERO, 4)
        self.check([turning(0)], [62500], 1, (5, 5, 0), (0, 8, 0), 3)

    def test_a_joint_that_slides(self):
        self.check([sliding(0)], [100], 1, (300, 0, 0), ZERO, 102)
        self.check([sliding(0, error=7)], [100], 1, (300, 0, 0), ZERO, 109)

    def test_boxes(self):
        self.check([turning(0, box=11)], [0], 1, (300, 0, 0), ZERO, 24)
        self.check([sliding(0, box=11)], [0], 1, (300, 0, 0), ZERO, 24)

    def test_offsets_and_boxes_lengthen_the_lever(self):
        # Behind the second joint the lever is 300 + 7 + 2 * 4, and 2 * 315 * 200000 / 1000000 is 126.
        joints = [turning(0), turning(1, (2, 3, -6), box=4)]
        self.check(joints, [200000, 0], 2, (300, 0, 0), ZERO, 2 + 8 + 126)
        # The length of (1, 1, 0) is rounded up to 2: the lever is 302, which gives 120.8.
        self.check([turning(0), turning(1, (1, 1, 0))], [200000, 0], 2, (300, 0, 0), ZERO, 2 + 121)

    def test_the_own_offset_of_a_joint_does_not_lengthen_its_lever(self):
        self.check([turning(0, (5000, 0, 0), box=4)], [10000], 1, (300, 0, 0), ZERO, 2 + 6 + 8)

    def test_ranges_and_errors_of_a_slide_lengthen_the_lever(self):
        # The lever is 300 + 700 + 9, and 2 * 1009 * 500000 / 1000000 is 1009.
        self.check([turning(0), sliding(1, ZERO, -700, 500, error=9)], [500000, 0], 2, (300, 0, 0), ZERO, 11 + 1009)
        self.check([turning(0), sliding(1, ZERO, -500, 700, error=9)], [500000, 0], 2, (300, 0, 0), ZERO, 11 + 1009)
        self.check([turning(0), sliding(1, ZERO, -700, -600)], [500000, 0], 2, (300, 0, 0), ZERO, 2 + 1000)

    def test_ranges_of_a_turn_do_not_lengthen_the_lever(self):
        self.check([turning(0), turning(1, error=9)], [500000, 0], 2, (300, 0, 0), ZERO, 2 + 1 + 300)

    def test_both_kinds_in_one_arm(self):
        joints = [turning(2, (3, 4, 0), box=3, error=10), sliding(0, (0, 0, 9), -20, 15, box=2, error=7)]
        # Begins with 2 and a lever of 2; behind the slide 63 and 42; then 84840 / 1000000 rounded up, and 6.
        self.check(joints, [1000, 50], 2, ZERO, (1, 1, 1), 70)
        self.check(joints, [1000, 50], 1, ZERO, (1, 1, 1), 2 + 1 + 6)

    def test_each_step_is_rounded_up(self):
        joints = [turning(0), turning(1), turning(2)]
        self.check(joints, [1, 1, 1], 3, (1, 0, 0), ZERO, 5)
        self.check(joints, [250000, 250000, 250000], 3, (1, 0, 0), ZERO, 5)
        self.check(joints, [250000, 0, 250000], 3, (1, 0, 0), ZERO, 4)

    def test_the_halves_may_be_a_row_of_slacks(self):
        joints = [turning(0), sliding(1)]
        self.check(joints, [1, 0], 2, (300, 0, 0), ZERO, 2 + 21)

    def test_true_places_are_within_the_unknown_of_their_spots(self):
        chance = random.Random(22)
        nearest = Fraction(1)
        for _ in range(300):
            arm = random_arm(chance)
            link = chance.randint(0, len(arm.joints))
            halves = [chance.choice((0, 1, 2000, 300000)) for _ in arm.joints]
            row = [chance.randint(joint.least, joint.most) for joint in arm.joints]
            body = Body(*[tuple(chance.randint(-900000, 900000) for _ in range(3)) for _ in range(2)], 0)
            values = [self.true_value(chance, *told) for told in zip(arm.joints, row, halves)]
            offsets = [self.true_offset(chance, joint) for joint in arm.joints]
            for end in (body.first, body.last):
                x, y, z, scale = true_place(arm, values, offsets, link, end)
                told = spot(arm, row, link, end)
                away = sum((c - d * scale) ** 2 for c, d in zip((x, y, z), told))
                most = (unknown(arm, halves, link, body) * scale) ** 2
                self.assertLessEqual(away, most)
                nearest = min(nearest, 1 - Fraction(away, most))
        # The bound is no bound of another kind: some places come rather near to it.
        self.assertLess(nearest, Fraction(1, 2))

    def true_value(self, chance, joint, value, half):
        stray = half + joint.error
        found = Fraction(value) + chance.choice((-1, 1, Fraction(chance.randint(-9, 9), 9))) * stray
        if not joint.turns:
            found = min(max(found, joint.least - joint.error), joint.most + joint.error)
        return (found.numerator, found.denominator)

    def true_offset(self, chance, joint):
        return tuple(c + chance.choice((-1, 1, 0)) * joint.box for c in joint.offset) + (1,)


if __name__ == "__main__":
    unittest.main()
