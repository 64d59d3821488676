"""Points [23] to [25]: moves and their parts."""
import random
import unittest
from fractions import Fraction

from armwarrant.arms.arm import Arm
from armwarrant.arms.joints import Joint
from armwarrant.arms.moves import Move, lower, upper
from armwarrant.errors import ArmwarrantError, InvalidMove

FAR = 10000000


def arm_of(many):
    return Arm([Joint(False, k % 3, (0, 0, 0), -FAR, FAR) for k in range(many)], [])


def move_of(first, last):
    return Move(arm_of(len(first)), first, last)


class TestMove(unittest.TestCase):
    def setUp(self):
        self.arm = Arm([Joint(False, 0, (0, 0, 0), -5, 5), Joint(True, 1, (0, 0, 0), 0, 9)], [])

    def check_field(self, field, first, last):
        with self.assertRaises(InvalidMove) as caught:
            Move(self.arm, first, last)
        self.assertEqual(caught.exception.field, field)
        self.assertIsInstance(caught.exception, ArmwarrantError)

    def test_fields(self):
        move = Move(self.arm, (-5, 0), (5, 9))
        self.assertEqual((move.first, move.last), ((-5, 0), (5, 9)))

    def test_lists_are_kept_as_tuples_and_may_be_changed_later(self):
        first, last = [1, 2], [3, 4]
        move = Move(self.arm, first, last)
        first[0] = 5
        last.append(6)
        self.assertEqual((move.first, move.last), ((1, 2), (3, 4)))
        self.assertIs(type(move.first), tuple)
        self.assertIs(type(move.last), tuple)

    def test_a_first_row_that_does_not_fit(self):
        for row in ([], [0], [0, 0, 0], [6, 0], [-6, 0], [0, -1], [0, 10]):
            self.check_field("first", row, [0, 0])
            self.check_field("first", tuple(row), [0, 0])

    def test_a_last_row_that_does_not_fit(self):
        for row in ([], [0], [0, 0, 0], [6, 0], [-6, 0], [0, -1], [0, 10]):
            self.check_field("last", [0, 0], row)
            self.check_field("last", [0, 0], tuple(row))

    def test_both_rows_do_not_fit(self):
        self.check_field("first", [6, 0], [0, 10])
        self.check_field("first", [], [])

    def test_a_rest(self):
        move = Move(self.arm, [3, 4], (3, 4))
        self.assertEqual(move.first, move.last)
        self.assertEqual(move.middle((0, 0)), [3, 4])
        self.assertEqual(move.middle((7, 100)), [3, 4])
        self.assertEqual(move.halves(0), [0, 0])
        self.assertEqual(move.halves(20), [0, 0])
        self.assertEqual(move.slack(), [0, 0])


class TestMiddle(unittest.TestCase):
    def test_the_whole_move(self):
        self.assertEqual(move_of([0, 10, -4], [10, 0, 4]).middle((0, 0)), [5, 5, 0])

    def test_parts(self):
        move = move_of([0, 800], [800, 0])
        self.assertEqual([move.middle((1, at)) for at in (0, 1)], [[200, 600], [600, 200]])
        self.assertEqual([move.middle((2, at))[0] for at in range(4)], [100, 300, 500, 700])
        self.assertEqual([move.middle((2, at))[1] for at in range(4)], [700, 500, 300, 100])
        self.assertEqual(move.middle((3, 7)), [750, 50])

    def test_rounded_down(self):
        self.assertEqual(move_of([0, 3, -3, 0], [3, 0, 0, -3]).middle((0, 0)), [1, 1, -2, -2])
        self.assertEqual(move_of([1, -1], [-2, 2]).middle((0, 0)), [-1, 0])
        # 7 * 5 / 16 is 2.1.., -7 * 5 / 16 is -2.1...
        self.assertEqual(move_of([0, 0, -7, 7], [7, -7, 0, 0]).middle((3, 2)), [2, -3, -5, 4])

    def test_the_last_part(self):
        self.assertEqual(move_of([0, 0], [1, -1]).middle((20, 2 ** 20 - 1)), [0, -1])
        self.assertEqual(move_of([0], [FAR]).middle((20, 2 ** 20 - 1)), [9999995])

    def test_the_result_is_a_list(self):
        self.assertIs(type(move_of([0], [1]).middle((0, 0))), list)


class TestHalves(unittest.TestCase):
    def test_at_depth_0(self):
        self.assertEqual(move_of([0, 0, 10, 3, 5], [10, 11, 0, 2, 5]).halves(0), [6, 7, 6, 2, 0])

    def test_deep(self):
        move = move_of([0, 800, -1, 7], [800, 0, 0, 7])
        self.assertEqual(move.halves(1), [201, 201, 2, 0])
        self.assertEqual(move.halves(2), [101, 101, 2, 0])
        self.assertEqual(move.halves(4), [26, 26, 2, 0])
        self.assertEqual(move.halves(5), [14, 14, 2, 0])
        self.assertEqual(move.halves(20), [2, 2, 2, 0])
        self.assertEqual(move.halves(40), [2, 2, 2, 0])

    def test_below_zero(self):
        self.assertEqual(move_of([-9, -2], [-2, -9]).halves(0), [5, 5])
        self.assertEqual(move_of([-FAR], [FAR]).halves(0), [FAR + 1])

    def test_the_result_is_a_list(self):
        self.assertIs(type(move_of([0], [1]).halves(0)), list)


class TestSlack(unittest.TestCase):
    def test_slacks(self):
        self.assertEqual(move_of([0, 5, 7, -3], [1, 5, -7, -3]).slack(), [1, 0, 1, 0])
        self.assertIs(type(move_of([0], [1]).slack()), list)


class TestParts(unittest.TestCase):
    def test_the_halves_of_a_part(self):
        self.assertEqual((lower((0, 0)), upper((0, 0))), ((1, 0), (1, 1)))
        self.assertEqual((lower((3, 5)), upper((3, 5))), ((4, 10), (4, 11)))
        self.assertEqual((lower((19, 2 ** 19 - 1)), upper((19, 2 ** 19 - 1))), ((20, 2 ** 20 - 2), (20, 2 ** 20 - 1)))
        self.assertIs(type(lower((0, 0))), tuple)
        self.assertIs(type(upper((0, 0))), tuple)


class TestWithin(unittest.TestCase):
    def setUp(self):
        chance = random.Random(25)
        self.cases = []
        for _ in range(200):
            size = chance.choice((1, 3, 20, FAR))
            first = [chance.randint(-size, size) for _ in range(4)]
            last = [chance.randint(-size, size) for _ in range(3)] + first[3:]
            depth = chance.choice((0, 1, 2, 5, 20))
            self.cases.append((first, last, (depth, chance.randrange(2 ** depth))))

    def farthest(self, first, last, part, steps):
        """Return how far the meant values are from the middle at most, at even steps of the part."""
        depth, at = part
        middle = move_of(first, last).middle(part)
        found = [Fraction(0)] * len(first)
        for step in steps:
            p = (at + step) / 2 ** depth
            for k, (a, b) in enumerate(zip(first, last)):
                found[k] = max(found[k], abs(a + (b - a) * p - middle[k]))
        return found

    def test_everywhere_in_a_part_values_are_within_the_halves(self):
        for first, last, part in self.cases:
            with self.subTest(first=first, last=last, part=part):
                strays = self.farthest(first, last, part, [Fraction(k, 4) for k in range(5)])
                halves = move_of(first, last).halves(part[0])
                self.assertTrue(all(stray <= half for stray, half in zip(strays, halves)))
                self.assertTrue(all(half < stray + 3 for stray, half in zip(strays, halves)))

    def test_in_the_very_middle_values_are_within_the_slack(self):
        for first, last, part in self.cases:
            with self.subTest(first=first, last=last, part=part):
                strays = self.farthest(first, last, part, [Fraction(1, 2)])
                self.assertTrue(all(stray <= slack for stray, slack in zip(strays, move_of(first, last).slack())))


if __name__ == "__main__":
    unittest.main()
