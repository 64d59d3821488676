"""Points [39], [40] and [42]: how fast an arm may go, and how long a move lasts."""
import random
import unittest
from fractions import Fraction

from things import FAR
from told_times import MILLION, PARTS, joint, motion, random_motion, told_micros, told_rates

from armwarrant.arms.arm import Arm
from armwarrant.arms.moves import Move
from armwarrant.times.rates import least_micros, rates_of

class TestRates(unittest.TestCase):
    def test_of_one_joint(self):
        arm, move = motion((-30, 7, 8, 9))
        self.assertEqual(rates_of(arm, move), ((7, 30), (8, 30), (9, 30)))

    def test_each_rate_is_the_least_of_the_joints_that_go(self):
        arm, move = motion((10, 5, 90, 95), (20, 40, 9, 99), (30, 90, 100, 101), (0, 1, 1, 1))
        self.assertEqual(rates_of(arm, move), ((5, 10), (9, 20), (101, 30)))

    def test_the_first_joint_of_several(self):
        arm, move = motion((0, 1, 1, 1), (40, 8, 12, 16), (10, 2, 3, 4), (20, 4, 6, 8))
        self.assertEqual(rates_of(arm, move), ((8, 40), (12, 40), (16, 40)))
        arm, move = motion((10, 9, 3, 9), (10, 2, 9, 9), (30, 6, 9, 15), (20, 4, 6, 10))
        self.assertEqual(rates_of(arm, move), ((2, 10), (3, 10), (15, 30)))

    def test_nothing_goes(self):
        arm, move = motion((0, 1, 1), (0, 2, 2))
        self.assertIsNone(rates_of(arm, move))


class TestLeastMicros(unittest.TestCase):
    def check(self, micros, *ways, **others):
        arm, move = motion(*ways)
        self.assertEqual(least_micros(arm, move, **others), micros)

    def test_the_greatest_speed_is_reached(self):
        # V = 1 / 10 and A = 1: 10 seconds for the way, and a tenth of a second to become faster.
        self.check(10100000, (10, 1, 10))
        self.check(10100000, (-10, 1, 10))
        # Rounded up: V = 1 / 3 and A = 7 / 3 give 3 + 1 / 7 seconds.
        self.check(3142858, (3, 1, 7))

    def test_the_greatest_speed_is_not_reached(self):
        # T is twice the root of the way by the acceleration.
        self.check(20000000, (100, 1000, 1))
        self.check(2000000, (100, 1000, 100))
        # 2 * 1000000 * the root of 2 is 2828427.1...
        self.check(2828428, (200, 1000, 100))

    def test_just_between_them(self):
        # V * V is 100 / 10000, and A is a bit below, just as much, and a bit above.
        self.check(20100757, (10000, 1000, 99))
        self.check(20000000, (10000, 1000, 100))
        self.check(19900991, (10000, 1000, 101))

    def test_an_exact_root(self):
        # T * T * A is just 4 * 10 ** 12 * D; for a way that is a bit longer T is one more.
        for root, far, accel in ((3000, 9000000, 1), (1, 1, 1), (7, 49, 1), (10, 1000, 10), (5, 250, 10)):
            self.check(2 * MILLION * root, (far, 10 ** 9, accel))
            arm, move = motion((far, 10 ** 9, accel))
            self.assertEqual(told_micros(arm, move), 2 * MILLION * root)
        self.check(2 * MILLION + 1, (FAR, 10 ** 9, FAR - 1))
        self.check(2 * MILLION, (FAR, 10 ** 9, FAR))
        self.check(2 * MILLION, (FAR, 10 ** 9, FAR + 1))

    def test_nothing_goes(self):
        self.check(0, (0, 1, 1))
        self.check(0, (0, 1, 1), (0, 10 ** 9, 10 ** 10), done=5)

    def test_a_joint_that_does_not_go_does_not_count(self):
        self.check(10100000, (0, 1, 1), (10, 1, 10), (0, 1, 1))

    def test_the_joints_are_led_together(self):
        # The speed of the one joint, and the acceleration of the other one: V = 1 / 10, A = 1 / 5.
        self.check(10500000, (10, 1, 1000), (5, 1000, 1))
        self.check(10500000, (5, 1000, 1), (10, 1, 1000))

    def test_the_brake_does_not_count(self):
        self.check(10100000, (10, 1, 10, 10 ** 10))

    def test_where_the_move_begins_does_not_count(self):
        arm = Arm([joint(1, 10), joint(1000, 1000)], [])
        for first, last in (([5, 0], [15, 0]), ([-10, 7], [0, 7]), ([5, -5], [-5, 5])):
            self.assertEqual(least_micros(arm, Move(arm, first, last)), 10100000)

    def test_all_parts_are_done(self):
        self.check(0, (10, 1, 10), done=PARTS)
        self.check(0, (10, 1, 10), (10, 1, 10), done=PARTS)

    def test_more_than_all_parts_are_done(self):
        self.check(0, (10, 1, 10), done=PARTS + 1)
        self.check(0, (10, 1, 10), done=2 * PARTS)

    def test_parts_that_are_done(self):
        self.check(10100000, (10, 1, 10), done=0)
        self.check(5100000, (10, 1, 10), done=PARTS // 2)
        self.check(2600000, (10, 1, 10), done=PARTS // 4 * 3)
        # The greatest speed is reached as long as D is above 1 / 100.
        self.check(200000, (10, 1, 10), done=PARTS - PARTS // 100)
        self.check(100000, (10, 1, 10), done=PARTS - PARTS // 400)
        # Of the last part the root is 2 * 1000000 / 2 ** 20, rounded up.
        self.check(2, (10, 1, 10), done=PARTS - 1)
        self.check(3, (10, 1, 10), done=PARTS - 2)
        self.check(4, (10, 1, 10), done=PARTS - 4)

    def test_done_is_passed_by_keyword(self):
        arm, move = motion((10, 1, 10))
        with self.assertRaises(TypeError):
            least_micros(arm, move, 0)

    def test_small_and_great_rates(self):
        self.check(10 ** 13 + 10 ** 6, (FAR, 1, 1))
        self.check(10 ** 13 + 10 ** 3, (FAR, 1, 1000))
        self.check(10 ** 13 + 1, (FAR, 1, 10 ** 10))
        self.check(64, (10, 10 ** 9, 10 ** 10))
        self.check(20, (1, 10 ** 9, 10 ** 10))
        self.check(63246, (FAR, 10 ** 9, 10 ** 10))
        self.check(2 * MILLION, (1, 10 ** 9, 1))
        self.check(2 * MILLION, (1, 1, 1))
        self.check(MILLION + 1, (1, 1, 10 ** 10))

    def test_it_is_what_the_document_tells(self):
        chance = random.Random(39)
        reached = []
        for _ in range(1500):
            arm, move = random_motion(chance)
            done = chance.choice((0, 0, chance.randint(0, PARTS), PARTS - chance.randint(0, 9)))
            self.assertEqual(least_micros(arm, move, done=done), told_micros(arm, move, done))
            rates = told_rates(arm, move)
            reached.append(rates and rates[0] ** 2 < rates[1] * Fraction(PARTS - done, PARTS))
        self.assertGreater(reached.count(True), 300)
        self.assertGreater(reached.count(False), 300)
        self.assertGreater(reached.count(None), 10)

    def test_no_motion_within_the_limits_takes_a_microsecond_less(self):
        chance = random.Random(42)
        for _ in range(500):
            arm, move = random_motion(chance)
            done = chance.choice((0, chance.randint(0, PARTS - 1)))
            rates = told_rates(arm, move)
            if rates is None:
                continue
            v, a, _ = rates
            seconds = Fraction(least_micros(arm, move, done=done) - 1, MILLION)
            # The farthest that one comes: faster for half of the time, or until the greatest speed, and back.
            ramp = min(seconds / 2, v / a)
            self.assertLess(a * ramp * (seconds - ramp), Fraction(PARTS - done, PARTS))


if __name__ == "__main__":
    unittest.main()
