"""Points [17] and [18]: bodies, capsules and arms, and the rows that fit an arm."""
import unittest

from armwarrant.arms.arm import Arm, Body, Capsule
from armwarrant.arms.joints import Joint
from armwarrant.errors import ArmwarrantError, InvalidArm

FAR = 10000000
THICK = 1000000
ZERO = (0, 0, 0)


def joint(least=-10, most=10):
    return Joint(False, 0, ZERO, least, most)


def capsule(link=0):
    return Capsule(link, Body(ZERO, (0, 0, 9), 3))


class ArmCase(unittest.TestCase):
    def check_field(self, field, make, *values, **others):
        with self.assertRaises(InvalidArm) as caught:
            make(*values, **others)
        self.assertEqual(caught.exception.field, field)
        self.assertIsInstance(caught.exception, ArmwarrantError)


class TestBody(ArmCase):
    def test_fields(self):
        body = Body((1, 2, 3), (4, -5, 6), 7)
        self.assertEqual(vars(body), dict(first=(1, 2, 3), last=(4, -5, 6), radius=7))

    def test_ends_at_their_bounds(self):
        body = Body((FAR, -FAR, FAR), (-FAR, FAR, -FAR), 0)
        self.assertEqual((body.first, body.last), ((FAR, -FAR, FAR), (-FAR, FAR, -FAR)))
        self.assertEqual(Body(ZERO, ZERO, 0).last, ZERO)

    def test_ends_beyond_their_bounds(self):
        for at in range(3):
            for x in (FAR + 1, -FAR - 1):
                end = tuple(x if k == at else 0 for k in range(3))
                self.check_field("body", Body, end, ZERO, 1)
                self.check_field("body", Body, ZERO, end, 1)

    def test_radius(self):
        for radius in (0, 1, THICK):
            self.assertEqual(Body(ZERO, ZERO, radius).radius, radius)
        for radius in (-1, THICK + 1):
            self.check_field("radius", Body, ZERO, ZERO, radius)

    def test_both_wrong(self):
        self.check_field("body", Body, (FAR + 1, 0, 0), ZERO, -1)
        self.check_field("body", Body, ZERO, (0, 0, FAR + 1), THICK + 1)


class TestCapsule(ArmCase):
    def test_fields(self):
        body = Body(ZERO, ZERO, 1)
        made = Capsule(2, body)
        self.assertEqual(made.link, 2)
        self.assertIs(made.body, body)


class TestArm(ArmCase):
    def test_fields(self):
        joints = [joint(), joint()]
        capsules = [capsule(0), capsule(2)]
        arm = Arm(joints, capsules, beside=[(0, 1)])
        self.assertEqual(arm.joints, tuple(joints))
        self.assertEqual(arm.capsules, tuple(capsules))
        self.assertEqual(arm.beside, ((0, 1),))

    def test_from_tuples(self):
        joints = (joint(), joint())
        capsules = (capsule(0), capsule(2))
        arm = Arm(joints, capsules, beside=((0, 1),))
        self.assertEqual((arm.joints, arm.capsules, arm.beside), (joints, capsules, ((0, 1),)))

    def test_fields_are_tuples_also_if_lists_are_changed_later(self):
        joints, capsules, beside = [joint()], [capsule(), capsule(1)], [(0, 1)]
        arm = Arm(joints, capsules, beside=beside)
        joints.append(joint())
        capsules.clear()
        beside[0] = (1, 2)
        beside.append((0, 2))
        self.assertEqual([len(arm.joints), len(arm.capsules)], [1, 2])
        self.assertEqual(arm.beside, ((0, 1),))
        for field in (arm.joints, arm.capsules, arm.beside):
            self.assertIs(type(field), tuple)

    def test_what_is_left_out(self):
        self.assertEqual(Arm([joint()], []).beside, ())
        self.assertEqual(Arm([joint()], []).capsules, ())

    def test_beside_is_passed_by_keyword(self):
        with self.assertRaises(TypeError):
            Arm([joint()], [], [])

    def test_the_number_of_joints(self):
        for many in (1, 2, 5, 6):
            self.assertEqual(len(Arm([joint()] * many, []).joints), many)
        for many in (0, 7, 8):
            self.check_field("joints", Arm, [joint()] * many, [])

    def test_the_number_of_capsules(self):
        for many in (0, 1, 8):
            self.assertEqual(len(Arm([joint()], [capsule()] * many).capsules), many)
        for many in (9, 10):
            self.check_field("capsules", Arm, [joint()], [capsule()] * many)

    def test_links(self):
        for many in (1, 3, 6):
            arm = Arm([joint()] * many, [capsule(link) for link in range(many + 1)])
            self.assertEqual([made.link for made in arm.capsules], list(range(many + 1)))
            self.check_field("link", Arm, [joint()] * many, [capsule(many + 1)])
            self.check_field("link", Arm, [joint()] * many, [capsule(0), capsule(-1), capsule(1)])

    def test_pairs_that_may_touch(self):
        pairs = [(0, 1), (1, 3), (0, 3), (2, 3)]
        self.assertEqual(Arm([joint()], [capsule()] * 4, beside=pairs).beside, tuple(pairs))

    def test_pairs_that_an_arm_cannot_have(self):
        for pair in ((0, 0), (3, 3), (1, 0), (3, 2), (-1, 0), (-2, -1), (0, 4), (3, 4), (4, 5)):
            self.check_field("beside", Arm, [joint()], [capsule()] * 4, beside=[pair])
            self.check_field("beside", Arm, [joint()], [capsule()] * 4, beside=[(0, 1), pair])
            self.check_field("beside", Arm, [joint()], [capsule()] * 4, beside=[pair, (0, 1)])
        self.check_field("beside", Arm, [joint()], [], beside=((0, 1),))

    def test_several_things_wrong(self):
        self.check_field("joints", Arm, [], [capsule(-1)] * 9, beside=[(1, 0)])
        self.check_field("joints", Arm, [joint()] * 7, [capsule(9)], beside=[(1, 0)])
        self.check_field("capsules", Arm, [joint()], [capsule(-1)] * 9, beside=[(1, 0)])
        self.check_field("link", Arm, [joint()], [capsule(2)] * 8, beside=[(1, 0)])

    def test_an_error_changes_nothing(self):
        joints, capsules, beside = [joint()], [capsule(5)], [(0, 0)]
        before = (list(joints), list(capsules), list(beside))
        self.check_field("link", Arm, joints, capsules, beside=beside)
        self.assertEqual((joints, capsules, beside), before)


class TestFits(ArmCase):
    def setUp(self):
        self.arm = Arm([joint(-3, 5), joint(2, 2), Joint(True, 1, ZERO, -8000000, -1)], [])

    def check_row(self, row, fits):
        self.assertIs(self.arm.fits(row), fits)
        self.assertIs(self.arm.fits(tuple(row)), fits)

    def test_rows_that_fit(self):
        self.check_row([0, 2, -4], True)
        self.check_row([-3, 2, -8000000], True)
        self.check_row([5, 2, -1], True)

    def test_one_value_beyond_its_range(self):
        for row in ([-4, 2, -4], [6, 2, -4], [0, 1, -4], [0, 3, -4], [0, 2, -8000001], [0, 2, 0]):
            self.check_row(row, False)

    def test_rows_of_another_length(self):
        for row in ([], [0], [0, 2], [0, 2, -4, 0], [0, 2, -4, -4, 2]):
            self.check_row(row, False)

    def test_an_arm_of_one_joint(self):
        self.arm = Arm([joint(-3, 5)], [])
        self.check_row([5], True)
        self.check_row([6], False)
        self.check_row([], False)
        self.check_row([0, 0], False)


if __name__ == "__main__":
    unittest.main()
