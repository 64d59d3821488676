"""Point [15]: the values of a joint."""
import unittest

from armwarrant.arms.joints import Joint
from armwarrant.errors import ArmwarrantError, InvalidArm

FAR = 10000000
STRONG = 10000000000


def values_of(turns=True, **others):
    values = dict(
        turns=turns, axis=1, offset=(1, -2, 3), least=-5, most=7,
        box=11, error=13, speed=17, accel=19, brake=23,
    )
    values.update(others)
    return values


class TestJoint(unittest.TestCase):
    def check_good(self, **others):
        for turns in (True, False):
            values = values_of(turns, **others)
            with self.subTest(**values):
                self.assertEqual(vars(Joint(**values)), values)

    def check_bad(self, field, **others):
        for turns in (True, False):
            self.check_bad_one(field, turns, **others)

    def check_bad_one(self, field, turns, **others):
        values = values_of(turns, **others)
        with self.subTest(**values):
            with self.assertRaises(InvalidArm) as caught:
                Joint(**values)
            self.assertEqual(caught.exception.field, field)
            self.assertIsInstance(caught.exception, ArmwarrantError)

    def test_fields(self):
        self.check_good()

    def test_what_is_left_out(self):
        joint = Joint(False, 2, (0, 0, 0), 0, 9)
        self.assertEqual(vars(joint), dict(
            turns=False, axis=2, offset=(0, 0, 0), least=0, most=9, box=0, error=0, speed=1, accel=1, brake=1,
        ))

    def test_a_brake_that_is_left_out_is_less_than_a_greater_accel(self):
        with self.assertRaises(InvalidArm) as caught:
            Joint(True, 0, (0, 0, 0), 0, 9, accel=2)
        self.assertEqual(caught.exception.field, "brake")
        self.assertEqual(Joint(True, 0, (0, 0, 0), 0, 9, brake=2).accel, 1)

    def test_the_last_five_are_passed_by_keyword(self):
        with self.assertRaises(TypeError):
            Joint(True, 0, (0, 0, 0), 0, 9, 0)

    def test_axis(self):
        for axis in (0, 1, 2):
            self.check_good(axis=axis)
        for axis in (-1, 3, 10 ** 9):
            self.check_bad("axis", axis=axis)

    def test_offset(self):
        for offset in ((0, 0, 0), (FAR, -FAR, FAR), (-FAR, FAR, -FAR)):
            self.check_good(offset=offset)
        for at in range(3):
            for x in (FAR + 1, -FAR - 1):
                self.check_bad("offset", offset=tuple(x if k == at else 0 for k in range(3)))

    def test_range_of_a_joint_that_turns(self):
        wide = 8000000
        for least, most in ((-wide, wide), (wide, wide), (-wide, -wide), (3, 3), (0, 0), (-7, -2)):
            self.assertEqual(Joint(**values_of(True, least=least, most=most)).most, most)
        for least, most in ((-wide - 1, 0), (0, wide + 1), (-FAR, FAR), (4, 3), (0, -1), (wide + 1, wide + 1)):
            self.check_bad_one("range", True, least=least, most=most)

    def test_range_of_a_joint_that_slides(self):
        for least, most in ((-FAR, FAR), (FAR, FAR), (-FAR, -FAR), (3, 3), (8000001, 8000002)):
            self.assertEqual(Joint(**values_of(False, least=least, most=most)).least, least)
        for least, most in ((-FAR - 1, 0), (0, FAR + 1), (4, 3), (0, -1), (-FAR - 1, -FAR - 1)):
            self.check_bad_one("range", False, least=least, most=most)

    def test_box(self):
        for box in (0, 1, 100000):
            self.check_good(box=box)
        for box in (-1, 100001):
            self.check_bad("box", box=box)

    def test_error(self):
        for error in (0, 1, 100000):
            self.check_good(error=error)
        for error in (-1, 100001):
            self.check_bad("error", error=error)

    def test_speed(self):
        for speed in (1, 2, 1000000000):
            self.check_good(speed=speed)
        for speed in (0, -1, 1000000001):
            self.check_bad("speed", speed=speed)

    def test_accel(self):
        for accel in (1, 2, STRONG):
            self.check_good(accel=accel, brake=STRONG)
        for accel in (0, -1, STRONG + 1):
            self.check_bad("accel", accel=accel, brake=STRONG)

    def test_brake(self):
        for brake in (19, 20, STRONG):
            self.check_good(brake=brake)
        for brake in (18, 0, -1, STRONG + 1):
            self.check_bad("brake", brake=brake)
        self.check_good(accel=STRONG, brake=STRONG)
        self.check_bad("brake", accel=STRONG, brake=STRONG - 1)

    def test_the_first_of_the_table_is_named(self):
        wrong = [
            ("axis", dict(axis=3)),
            ("offset", dict(offset=(0, 0, FAR + 1))),
            ("range", dict(least=8, most=7)),
            ("box", dict(box=-1)),
            ("error", dict(error=100001)),
            ("speed", dict(speed=0)),
            ("accel", dict(accel=STRONG + 1)),
            ("brake", dict(brake=0)),
        ]
        for k, (field, values) in enumerate(wrong):
            for _, others in wrong[k + 1:]:
                self.check_bad(field, **values, **others)


if __name__ == "__main__":
    unittest.main()
