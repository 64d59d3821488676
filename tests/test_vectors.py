"""Points [2] and [6]: roots and quotients rounded up, and vectors."""
import random
import unittest

from armwarrant.shapes.vectors import (
    divide_up, dot, greatest, length_up, minus, plus, root_up, scaled,
)

FAR = 10 ** 9


class TestRootUp(unittest.TestCase):
    def test_small_numbers(self):
        roots = [root_up(number) for number in range(18)]
        self.assertEqual(roots, [0, 1, 2, 2, 2, 3, 3, 3, 3, 3, 4, 4, 4, 4, 4, 4, 4, 5])

    def test_squares_and_their_neighbours(self):
        for root in (2, 3, 10, 999, 10 ** 6, 2 ** 26 + 1, 2 ** 53 + 1, 10 ** 9, 10 ** 30 + 7):
            with self.subTest(root):
                self.assertEqual(root_up(root * root - 1), root)
                self.assertEqual(root_up(root * root), root)
                self.assertEqual(root_up(root * root + 1), root + 1)

    def test_long_numbers(self):
        chance = random.Random(1)
        for digits in (100, 160, 239, 240):
            number = chance.randrange(10 ** (digits - 1), 10 ** digits)
            root = root_up(number)
            self.assertTrue((root - 1) ** 2 < number <= root ** 2)
        root = 10 ** 120 - 1
        self.assertEqual(root_up(root * root - 1), root)
        self.assertEqual(root_up(root * root), root)
        self.assertEqual(root_up(root * root + 1), root + 1)

    def test_the_result_is_an_integer(self):
        self.assertIs(type(root_up(0)), int)
        self.assertIs(type(root_up(10 ** 40)), int)


class TestDivideUp(unittest.TestCase):
    def test_without_a_remainder(self):
        self.assertEqual([divide_up(number, 3) for number in (-6, -3, 0, 3, 6)], [-2, -1, 0, 1, 2])

    def test_with_a_remainder(self):
        self.assertEqual([divide_up(number, 3) for number in (-7, -5, -4, -2, -1)], [-2, -1, -1, 0, 0])
        self.assertEqual([divide_up(number, 3) for number in (1, 2, 4, 5, 7)], [1, 1, 2, 2, 3])

    def test_by_one(self):
        self.assertEqual([divide_up(number, 1) for number in (-5, 0, 5)], [-5, 0, 5])

    def test_long_numbers(self):
        chance = random.Random(2)
        for digits in (30, 120, 240):
            for sign in (1, -1):
                number = sign * chance.randrange(10 ** (digits - 1), 10 ** digits)
                divisor = chance.randrange(1, 10 ** (digits // 2))
                quotient = divide_up(number, divisor)
                self.assertTrue((quotient - 1) * divisor < number <= quotient * divisor)
        self.assertEqual(divide_up(10 ** 240, 10 ** 120), 10 ** 120)
        self.assertEqual(divide_up(10 ** 239 + 1, 10 ** 120), 10 ** 119 + 1)


class TestVectors(unittest.TestCase):
    def test_dot(self):
        self.assertEqual(dot((1, 2, 3), (4, 5, 6)), 32)
        self.assertEqual(dot((1, -2, 3), (-4, 5, 6)), 4)
        self.assertEqual(dot((0, 0, 0), (-4, 5, 6)), 0)
        self.assertEqual(dot((FAR, FAR, FAR), (FAR, FAR, -FAR)), 10 ** 18)

    def test_plus(self):
        self.assertEqual(plus((1, -2, 3), (10, 20, -30)), (11, 18, -27))
        self.assertEqual(plus((1, -2, 3), (0, 0, 0)), (1, -2, 3))
        self.assertEqual(plus((FAR, -FAR, FAR), (FAR, -FAR, -FAR)), (2 * FAR, -2 * FAR, 0))

    def test_minus(self):
        self.assertEqual(minus((1, -2, 3), (10, 20, -30)), (-9, -22, 33))
        self.assertEqual(minus((0, 0, 0), (1, -2, 3)), (-1, 2, -3))
        self.assertEqual(minus((FAR, -FAR, FAR), (-FAR, FAR, FAR)), (2 * FAR, -2 * FAR, 0))

    def test_scaled(self):
        self.assertEqual(scaled((1, -2, 3), 5), (5, -10, 15))
        self.assertEqual(scaled((1, -2, 3), -1), (-1, 2, -3))
        self.assertEqual(scaled((1, -2, 3), 0), (0, 0, 0))
        self.assertEqual(scaled((FAR, -FAR, 0), FAR), (10 ** 18, -10 ** 18, 0))

    def test_vectors_that_are_returned_are_tuples(self):
        for vector in (plus((1, 2, 3), (4, 5, 6)), minus((1, 2, 3), (4, 5, 6)), scaled((1, 2, 3), 4)):
            self.assertIs(type(vector), tuple)

    def test_length_up_of_whole_lengths(self):
        self.assertEqual(length_up((0, 0, 0)), 0)
        self.assertEqual(length_up((0, -7, 0)), 7)
        self.assertEqual(length_up((2, -3, 6)), 7)
        self.assertEqual(length_up((2 * FAR // 10, 3 * FAR // 10, 6 * FAR // 10)), 7 * FAR // 10)

    def test_length_up_just_above_a_whole_length(self):
        self.assertEqual(length_up((1, 0, 1)), 2)
        self.assertEqual(length_up((1, 1, 1)), 2)
        self.assertEqual(length_up((10, 0, -1)), 11)
        self.assertEqual(length_up((FAR, 1, 0)), FAR + 1)

    def test_length_up_just_below_a_whole_length(self):
        self.assertEqual(length_up((2, 2, 0)), 3)
        self.assertEqual(length_up((FAR, FAR, FAR)), 1732050808)

    def test_greatest(self):
        self.assertEqual(greatest((0, 0, 0)), 0)
        self.assertEqual(greatest((5, -3, 2)), 5)
        self.assertEqual(greatest((3, -5, 2)), 5)
        self.assertEqual(greatest((3, 2, -5)), 5)
        self.assertEqual(greatest((3, 2, 5)), 5)
        self.assertEqual(greatest((-FAR, FAR - 1, 0)), FAR)


if __name__ == "__main__":
    unittest.main()
