"""Points [40] to [46]: where an arm is after some time, where it rests if it stops, and how long that takes."""
import random
import unittest
from fractions import Fraction
from math import ceil, floor

from things import FAR, ZERO
from told_times import (
    MILLION, PARTS, joint, motion, random_motion, told_micros, told_moment, told_ramp, told_rates, told_stop,
)

from armwarrant.arms.arm import Arm
from armwarrant.arms.joints import Joint
from armwarrant.arms.moves import Move
from armwarrant.errors import ArmwarrantError, OutOfRange
from armwarrant.times.moments import each_alone, longest_stop, moment, stop_from
from armwarrant.times.rates import least_micros

LATEST = 2 ** 53
HALF = Fraction(1, 2)


def random_moments(chance, arm, move, done):
    """Return microseconds at the ends of the pieces of a motion, beside them and between."""
    lasts = least_micros(arm, move, done=done)
    found = [0, 1, lasts - 1, lasts, lasts + 1, lasts // 2]
    if lasts:
        ramp = floor(told_ramp(arm, move, done) * lasts)
        found += [ramp, ramp + 1, lasts - ramp - 1, lasts - ramp]
        found += [chance.randint(0, ramp), lasts - chance.randint(0, ramp)]
    found += [chance.randint(0, lasts) for _ in range(3)]
    return [micros for micros in found if micros >= 0]


class MomentCase(unittest.TestCase):
    def setUp(self):
        # V = 1 / 10, A = 1 / 10 * 10 and B = 2: 10.1 seconds, of which 0.1 are the ramp at each end.
        self.fast = motion((1000, 100, 1000, 2000))
        # V is not reached: 2 seconds, a second up and a second down, with a parameter of 1 / 2 at the top.
        self.short = motion((1000, 10 ** 6, 1000, 4000))

    def check_field(self, field, ask, *values, **others):
        with self.assertRaises(OutOfRange) as caught:
            ask(*values, **others)
        self.assertEqual(caught.exception.field, field)
        self.assertIsInstance(caught.exception, ArmwarrantError)

    def check_bounds(self, ask):
        arm, move = self.fast
        for micros in (0, LATEST):
            for done in (0, 5, PARTS):
                ask(arm, move, micros, done=done)
        for done in (-1, PARTS + 1, -PARTS):
            for micros in (0, -1, LATEST + 1):
                self.check_field("done", ask, arm, move, micros, done=done)
        for micros in (-1, LATEST + 1, -LATEST):
            for done in (0, PARTS):
                self.check_field("micros", ask, arm, move, micros, done=done)
            self.check_field("micros", ask, arm, move, micros)
        with self.assertRaises(TypeError):
            ask(arm, move, 0, 0)
        resting = motion((0, 1, 1))
        self.check_field("done", ask, *resting, 0, done=-1)
        self.check_field("micros", ask, *resting, -1)


class TestMoment(MomentCase):
    def check(self, told, micros, parts, values, **others):
        found = moment(*told, micros, **others)
        self.assertEqual(found, (parts, values))
        self.assertIs(type(found), tuple)
        self.assertIs(type(found[1]), list)

    def test_errors(self):
        self.check_bounds(moment)

    def test_the_three_pieces(self):
        # Of 10.1 seconds: after t seconds of the ramp t * t / 2, then 1 / 200 and 1 / 10 of a second each.
        for micros, share, value in (
            (0, Fraction(0), 0),
            (50000, Fraction(1, 800), 1),
            (100000, Fraction(1, 200), 5),
            (200000, Fraction(3, 200), 15),
            (5050000, HALF, 500),
            (10000000, Fraction(199, 200), 995),
            (10050000, Fraction(799, 800), 998),
            (10100000, Fraction(1), 1000),
        ):
            self.check(self.fast, micros, floor(share * PARTS), [value])

    def test_beside_the_ends_of_the_pieces(self):
        for told in (self.fast, self.short):
            lasts = least_micros(*told)
            for middle in (0, 100000, lasts // 2, lasts - 100000, lasts):
                for micros in range(max(0, middle - 3), middle + 4):
                    self.check(told, micros, *told_moment(*told, micros))

    def test_without_the_greatest_speed(self):
        for micros, share in ((0, Fraction(0)), (500000, Fraction(1, 8)), (MILLION, HALF),
                              (1500000, Fraction(7, 8)), (2000000, Fraction(1))):
            self.check(self.short, micros, floor(share * PARTS), [floor(1000 * share)])
        self.check(self.short, 1, PARTS // (2 * 10 ** 12), [0])
        self.check(self.short, 1999999, PARTS - 1, [999])

    def test_at_the_end_and_later(self):
        for told in (self.fast, self.short):
            lasts = least_micros(*told)
            for micros in (lasts, lasts + 1, 2 * lasts, LATEST):
                self.check(told, micros, PARTS, [1000])
            self.assertLess(moment(*told, lasts - 1)[0], PARTS)

    def test_microseconds_0(self):
        for done in (0, 1, 12345, PARTS - 1, PARTS):
            for told in (self.fast, self.short):
                self.check(told, 0, done, [1000 * done // PARTS], done=done)

    def test_parts_that_are_done(self):
        half = PARTS // 2
        # What is left takes 5.1 seconds, and begins at rest.
        self.check(self.fast, 100000, half + PARTS // 200, [505], done=half)
        self.check(self.fast, 2550000, half + PARTS // 4, [750], done=half)
        self.check(self.fast, 5100000, PARTS, [1000], done=half)
        self.check(self.fast, 5099999, PARTS - 1, [999], done=half)
        # The last part takes 2 microseconds.
        self.check(self.fast, 0, PARTS - 1, [999], done=PARTS - 1)
        self.check(self.fast, 1, PARTS - 1, [999], done=PARTS - 1)
        self.check(self.fast, 2, PARTS, [1000], done=PARTS - 1)

    def test_all_parts_are_done(self):
        for micros in (0, 1, LATEST):
            self.check(self.fast, micros, PARTS, [1000], done=PARTS)

    def test_nothing_goes(self):
        arm = Arm([joint(), joint()], [])
        told = (arm, Move(arm, [7, -8], [7, -8]))
        for micros in (0, 1, LATEST):
            for done in (0, 5, PARTS):
                self.check(told, micros, PARTS, [7, -8], done=done)

    def test_values_are_rounded_down(self):
        arm = Arm([joint(10 ** 6, 1000), joint(10 ** 6, 1000), joint(10 ** 6, 1000), joint()], [])
        move = Move(arm, [1000, 0, -5, 9], [0, -1000, -6, 9])
        # At 1 / 8 of the way.
        self.check((arm, move), 500000, PARTS // 8, [875, -125, -6, 9])
        # At 1 / 2 - 1 / 10 ** 12 of the way, or nearly so.
        self.check((arm, move), 999999, *told_moment(arm, move, 999999))
        self.assertEqual(moment(arm, move, 999999)[1], [500, -500, -6, 9])
        self.assertEqual(moment(arm, move, 1000001)[1], [499, -501, -6, 9])
        self.assertEqual(moment(arm, move, 2000000)[1], [0, -1000, -6, 9])

    def test_the_values_are_those_of_the_exact_parameter(self):
        # At 3 / 200 of the way the value is 15, though it is 14 at the parts, which are rounded down.
        parts, values = moment(*self.fast, 200000)
        self.assertEqual((parts, 1000 * parts // PARTS, values), (PARTS * 3 // 200, 14, [15]))

    def test_it_is_what_the_document_tells(self):
        chance = random.Random(41)
        for _ in range(400):
            arm, move = random_motion(chance)
            if chance.random() < 0.5:
                move = Move(arm, move.last, [a if chance.random() < 0.5 else -b for a, b in zip(move.first, move.last)])
            done = chance.choice((0, 0, chance.randint(0, PARTS), PARTS - chance.randint(0, 5)))
            for micros in random_moments(chance, arm, move, done):
                self.check((arm, move), micros, *told_moment(arm, move, micros, done), done=done)

    def test_parts_never_decrease(self):
        chance = random.Random(43)
        for _ in range(60):
            arm, move = random_motion(chance)
            done = chance.choice((0, chance.randint(0, PARTS)))
            rows = sorted(random_moments(chance, arm, move, done))
            parts = [moment(arm, move, micros, done=done)[0] for micros in rows]
            self.assertEqual(parts, sorted(parts))
            self.assertGreaterEqual(parts[0], done)
            self.assertLessEqual(parts[-1], PARTS)
        for told in (self.fast, self.short, motion((7, 3, 5))):
            for start in (0, 99990, 999990, 10000000):
                parts = [moment(*told, start + k)[0] for k in range(30)]
                self.assertEqual(parts, sorted(parts))

    def test_the_limits_are_kept(self):
        chance = random.Random(44)
        for _ in range(150):
            arm, move = random_motion(chance)
            rates = told_rates(arm, move)
            if rates is None:
                continue
            v, a, _ = rates
            done = chance.choice((0, chance.randint(0, PARTS - 1)))
            lasts = least_micros(arm, move, done=done)
            step = max(1, lasts // chance.choice((7, 50, 1000)))
            for start in (0, chance.randint(0, lasts), max(0, lasts - 2 * step)):
                one, two, three = (moment(arm, move, start + k * step, done=done)[0] for k in range(3))
                seconds = Fraction(step, MILLION)
                # The parts are rounded down, so a difference can be one part more, the second difference two.
                self.assertLessEqual(two - one - 1, v * seconds * PARTS)
                self.assertLessEqual(abs(three - 2 * two + one) - 2, a * seconds * seconds * PARTS)


class TestStop(MomentCase):
    def check(self, told, micros, lasts, parts, values, **others):
        found = stop_from(*told, micros, **others)
        self.assertEqual(found, (lasts, parts, values))
        self.assertIs(type(found), tuple)
        self.assertIs(type(found[2]), list)

    def test_errors(self):
        self.check_bounds(stop_from)

    def test_at_speed_0(self):
        for told in (self.fast, self.short):
            self.check(told, 0, 0, 0, [0])
            lasts = least_micros(*told)
            for micros in (lasts, lasts + 1, LATEST):
                self.check(told, micros, 0, PARTS, [1000])
            self.check(told, 0, 0, 12345, [0], done=12345)
            self.check(told, 0, 0, PARTS, [1000], done=PARTS)

    def test_nothing_goes(self):
        arm = Arm([joint(), joint()], [])
        for micros in (0, 1, LATEST):
            for done in (0, PARTS):
                self.check((arm, Move(arm, [7, -8], [7, -8])), micros, 0, PARTS, [7, -8], done=done)

    def test_in_each_piece(self):
        # B is 2. At the greatest speed, 1 / 10, it lasts 1 / 20 seconds, and the way is 1 / 400.
        for micros, speed, share in (
            (50000, Fraction(1, 20), Fraction(1, 800)),
            (100000, Fraction(1, 10), Fraction(1, 200)),
            (5050000, Fraction(1, 10), HALF),
            (10000000, Fraction(1, 10), Fraction(199, 200)),
            (10050000, Fraction(1, 20), Fraction(799, 800)),
        ):
            end = share + speed * speed / 4
            self.check(self.fast, micros, int(MILLION * speed / 2), ceil(end * PARTS), [floor(1000 * end)])

    def test_without_the_greatest_speed(self):
        # A is 1 and B is 4: after a second the speed is 1, and the way is 1 / 8.
        self.check(self.short, MILLION, 250000, PARTS // 8 * 5, [625])
        self.check(self.short, 500000, 125000, PARTS // 8 + PARTS // 32, [156])
        self.check(self.short, 1500000, 125000, PARTS // 8 * 7 + PARTS // 32, [906])

    def test_microseconds_and_parts_are_rounded_up(self):
        # After a microsecond the speed is 1 / 10 ** 6, which takes a quarter of a microsecond.
        arm, move = self.short
        end = Fraction(1, 2 * 10 ** 12) + Fraction(1, 8 * 10 ** 12)
        self.assertEqual(ceil(end * PARTS), 1)
        self.check((arm, move), 1, 1, 1, [0])
        self.check((arm, move), 4, 1, *told_stop(arm, move, 4)[1:])
        self.check((arm, move), 5, 2, *told_stop(arm, move, 5)[1:])

    def test_values_are_rounded_down_also_if_they_go_down(self):
        arm = Arm([joint(10 ** 6, 1000, 4000), joint(10 ** 6, 1000, 4000), joint()], [])
        move = Move(arm, [0, 100, 9], [-1000, -900, 9])
        # At 5 / 32 of the way, which is 156.25.
        self.check((arm, move), 500000, 125000, PARTS // 32 * 5, [-157, -57, 9])

    def test_the_braking_is_that_of_the_whole_move_if_parts_are_done(self):
        half = PARTS // 2
        self.check(self.fast, 100000, 50000, half + ceil(PARTS * Fraction(3, 400)), [507], done=half)

    def test_the_least_braking_counts(self):
        # The first joint brakes by 10 for a way of 10, the second one by 10 for a way of 40.
        told = motion((10, 1, 10), (40, 1000, 10))
        self.assertEqual(told_rates(*told)[2], Fraction(1, 4))
        micros = least_micros(*told) // 2
        self.check(told, micros, 400000, *told_stop(*told, micros)[1:])

    def test_it_is_what_the_document_tells(self):
        chance = random.Random(45)
        for _ in range(400):
            arm, move = random_motion(chance)
            if chance.random() < 0.5:
                move = Move(arm, move.last, move.first)
            done = chance.choice((0, 0, chance.randint(0, PARTS), PARTS - chance.randint(0, 5)))
            for micros in random_moments(chance, arm, move, done):
                self.check((arm, move), micros, *told_stop(arm, move, micros, done), done=done)

    def test_a_stop_ends_on_the_move(self):
        chance = random.Random(46)
        for _ in range(200):
            arm, move = random_motion(chance)
            for micros in random_moments(chance, arm, move, 0):
                lasts, parts, _ = stop_from(arm, move, micros)
                self.assertLessEqual(parts, PARTS)
                self.assertGreaterEqual(parts, moment(arm, move, micros)[0])
                self.assertLessEqual(lasts, max(0, least_micros(arm, move) - micros) + 1)


class TestLongestStop(unittest.TestCase):
    def test_the_greatest_speed_can_be_reached(self):
        self.assertEqual(longest_stop(*motion((1000, 100, 1000, 2000))), 50000)
        # V / B is 1 / 7, or 1 / 7 of a microsecond.
        self.assertEqual(longest_stop(*motion((1000, 100, 700))), 142858)
        self.assertEqual(longest_stop(*motion((FAR, 1, 1, 7 * MILLION))), 1)

    def test_the_greatest_speed_cannot_be_reached(self):
        # The root of A, which is 1, by B.
        self.assertEqual(longest_stop(*motion((1000, 10 ** 6, 1000, 4000))), 250000)
        self.assertEqual(longest_stop(*motion((1000, 10 ** 6, 1000, 1000))), MILLION)
        # The root of 2, by 2.
        self.assertEqual(longest_stop(*motion((500, 10 ** 6, 1000))), 707107)
        # S * S * B * B is just 10 ** 12 * A, and a bit more and less.
        self.assertEqual(longest_stop(*motion((FAR, 10 ** 9, FAR))), MILLION)
        self.assertEqual(longest_stop(*motion((FAR, 10 ** 9, FAR, FAR + 1))), MILLION)
        self.assertEqual(longest_stop(*motion((FAR, 10 ** 9, FAR - 1))), MILLION + 1)

    def test_just_between_them(self):
        # V * V is 100 / 10000, and A is a bit below, just as much, and a bit above.
        self.assertEqual(longest_stop(*motion((10000, 1000, 99, 200))), 4974938)
        self.assertEqual(longest_stop(*motion((10000, 1000, 100, 200))), 5000000)
        self.assertEqual(longest_stop(*motion((10000, 1000, 101, 200))), 5000000)
        self.assertEqual(longest_stop(*motion((10000, 1001, 101, 200))), 5005000)

    def test_nothing_goes(self):
        self.assertEqual(longest_stop(*motion((0, 1, 1), (0, 1, 1))), 0)

    def test_each_rate_of_the_joint_at_which_it_is_least(self):
        # V is 1 / 10, A is 20 / 20, B is 40 / 20; the third joint does not go.
        self.assertEqual(longest_stop(*motion((10, 1, 100), (20, 100, 20, 40), (0, 1, 1))), 50000)

    def test_it_is_what_the_document_tells(self):
        chance = random.Random(47)
        for _ in range(600):
            arm, move = random_motion(chance)
            rates = told_rates(arm, move)
            found = longest_stop(arm, move)
            if rates is None:
                self.assertEqual(found, 0)
                continue
            v, a, b = rates
            if v * v < a:
                self.assertEqual(found, ceil(MILLION * v / b))
            else:
                self.assertGreaterEqual((found * b) ** 2, MILLION ** 2 * a)
                self.assertLess(((found - 1) * b) ** 2, MILLION ** 2 * a)

    def test_no_stop_lasts_longer(self):
        chance = random.Random(48)
        nearest = 0
        for _ in range(300):
            arm, move = random_motion(chance)
            most = longest_stop(arm, move)
            for done in (0, 0, chance.randint(0, PARTS)):
                for micros in random_moments(chance, arm, move, done):
                    lasts = stop_from(arm, move, micros, done=done)[0]
                    self.assertLessEqual(lasts, most)
                    nearest += lasts == most
        self.assertGreater(nearest, 100)


class TestEachAlone(unittest.TestCase):
    def test_one_joint(self):
        self.assertEqual(each_alone(*motion((10, 1, 10))), 10100000)
        self.assertEqual(each_alone(*motion((-10, 1, 10))), 10100000)

    def test_several_joints(self):
        # Alone 10.1 and 2 seconds; together longer than either.
        arm, move = motion((10, 1, 10), (100, 1000, 100))
        self.assertEqual(each_alone(arm, move), 10100000)
        arm, move = motion((100, 1000, 100), (10, 1, 10), (0, 1, 1))
        self.assertEqual(each_alone(arm, move), 10100000)
        arm, move = motion((10, 1, 1000), (5, 1000, 1))
        self.assertEqual(each_alone(arm, move), 10001000)
        self.assertEqual(least_micros(arm, move), 10500000)

    def test_none_that_goes(self):
        self.assertEqual(each_alone(*motion((0, 1, 1))), 0)
        self.assertEqual(each_alone(*motion((0, 1, 1), (0, 2, 2))), 0)

    def test_the_others_stay_where_they_are_at_the_beginning(self):
        arm = Arm([joint(1, 10), Joint(False, 0, ZERO, -5, 5, speed=1, accel=10, brake=10)], [])
        self.assertEqual(each_alone(arm, Move(arm, [100, -5], [90, 5])), 10100000)

    def test_it_is_the_greatest_time_and_at_most_that_of_the_move(self):
        chance = random.Random(49)
        less = 0
        for _ in range(400):
            arm, move = random_motion(chance)
            alone = [
                told_micros(Arm([one], []), Move(Arm([one], []), [a], [b]))
                for one, a, b in zip(arm.joints, move.first, move.last)
            ]
            found = each_alone(arm, move)
            self.assertEqual(found, max(alone))
            self.assertLessEqual(found, least_micros(arm, move))
            less += found < least_micros(arm, move)
        self.assertGreater(less, 50)


if __name__ == "__main__":
    unittest.main()
