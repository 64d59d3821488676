"""Points [13] and [14]: directions and ways that part, and the corners of a box."""
import random
import unittest
from fractions import Fraction

from armwarrant.shapes.parting import corners, direction, parts_places

TOP = 2 ** 20


class TestDirection(unittest.TestCase):
    def test_a_vector_up_to_the_bound_is_returned_as_it_is(self):
        for vector in ((0, 0, 0), (1, -2, 3), (TOP, -TOP, 5), (-TOP, 0, TOP - 1), (3, 5, -TOP)):
            with self.subTest(vector):
                self.assertEqual(direction(vector), vector)
                self.assertIs(type(direction(vector)), tuple)

    def test_one_above_the_bound(self):
        # 21 digits, so k = 1 and h = 1.
        self.assertEqual(direction((TOP + 1, 0, -1)), (TOP // 2 + 1, 0, 0))
        self.assertEqual(direction((0, TOP + 1, 1)), (0, TOP // 2 + 1, 1))
        self.assertEqual(direction((2, 3, TOP + 1)), (1, 2, TOP // 2 + 1))
        self.assertEqual(direction((-TOP - 1, -2, -3)), (-TOP // 2, -1, -1))

    def test_the_greatest_vector_of_21_digits(self):
        self.assertEqual(direction((2 * TOP - 1, 1 - 2 * TOP, -3)), (TOP, 1 - TOP, -1))

    def test_22_digits(self):
        # k = 2 and h = 2.
        self.assertEqual(direction((2 * TOP, 5, -5)), (TOP // 2, 1, -1))
        self.assertEqual(direction((-2 * TOP, 6, -6)), (-TOP // 2, 2, -1))
        self.assertEqual(direction((7, -7, 4 * TOP - 1)), (2, -2, TOP))

    def test_up_to_2_to_the_power_60(self):
        # 61 digits, so k = 41 and h = 2 to the power 40.
        self.assertEqual(direction((2 ** 60, -2 ** 60, 2 ** 40)), (2 ** 19, -2 ** 19, 1))
        self.assertEqual(direction((-2 ** 60, 2 ** 40 - 1, -2 ** 40 - 1)), (-2 ** 19, 0, -1))
        self.assertEqual(direction((2 ** 60 - 1, 1 - 2 ** 60, -2 ** 39)), (TOP, -TOP, 0))

    def test_no_coordinate_is_above_the_bound_and_each_is_rounded(self):
        chance = random.Random(13)
        for digits in range(1, 61):
            for _ in range(20):
                vector = tuple(chance.randint(-2 ** digits, 2 ** digits) for _ in range(3))
                found = direction(vector)
                with self.subTest(vector):
                    self.assertIs(type(found), tuple)
                    self.assertLessEqual(max(abs(x) for x in found), TOP)
                    size = max(abs(x) for x in vector)
                    scale = 2 ** max(0, size.bit_length() - 20) if size > TOP else 1
                    for x, y in zip(vector, found):
                        self.assertTrue(Fraction(-1, 2) < y - Fraction(x, scale) <= Fraction(1, 2))


class TestPartsPlaces(unittest.TestCase):
    def test_lists_of_one_place_at_the_bound_and_beside_it(self):
        # The length of the way is 5, and the reach 6, so more than 30 are needed.
        for x, parts in ((9, False), (10, False), (11, True)):
            self.assertIs(parts_places((3, 4, 0), [(x, 0, 0)], [(0, 0, 0)], 6), parts)
        for y, parts in ((29, False), (30, False), (31, True)):
            self.assertIs(parts_places((0, 1, 0), [(7, y, 7)], [(9, 0, -9)], 30), parts)

    def test_the_length_is_rounded_up(self):
        # The length is 1.4.., rounded up 2.
        self.assertIs(parts_places((1, 1, 0), [(5, 0, 0)], [(0, 0, 0)], 2), True)
        self.assertIs(parts_places((1, 1, 0), [(6, 0, 0)], [(0, 0, 0)], 3), False)
        self.assertIs(parts_places((1, 1, 0), [(7, 0, 0)], [(0, 0, 0)], 3), True)

    def test_the_way_leads_from_the_second_list_to_the_first(self):
        self.assertIs(parts_places((1, 0, 0), [(10, 0, 0)], [(0, 0, 0)], 5), True)
        self.assertIs(parts_places((-1, 0, 0), [(10, 0, 0)], [(0, 0, 0)], 5), False)
        self.assertIs(parts_places((1, 0, 0), [(0, 0, 0)], [(10, 0, 0)], 5), False)
        self.assertIs(parts_places((-1, 0, 0), [(0, 0, 0)], [(10, 0, 0)], 5), True)

    def test_lists_of_several_places(self):
        first = [(20, 0, 0), (11, 5, 5), (30, -9, 9)]
        second = [(-5, 0, 0), (0, 8, 8), (-7, 1, 1)]
        self.assertIs(parts_places((1, 0, 0), first, second, 10), True)
        self.assertIs(parts_places((1, 0, 0), first, second, 11), False)
        for turned in (first[1:] + first[:1], first[2:] + first[:2]):
            self.assertIs(parts_places((1, 0, 0), turned, second, 11), False)
        for turned in (second[1:] + second[:1], second[2:] + second[:2]):
            self.assertIs(parts_places((1, 0, 0), first, turned, 11), False)

    def test_lists_of_different_sizes(self):
        self.assertIs(parts_places((0, 0, 1), [(0, 0, 5)], [(0, 0, 1), (0, 0, 2)], 2), True)
        self.assertIs(parts_places((0, 0, 1), [(0, 0, 5), (0, 0, 4)], [(0, 0, 2)], 2), False)

    def test_a_reach_of_zero(self):
        self.assertIs(parts_places((3, 4, 0), [(1, 0, 0)], [(0, 0, 0)], 0), True)
        self.assertIs(parts_places((3, 4, 0), [(4, 0, 0)], [(0, 3, 0)], 0), False)
        self.assertIs(parts_places((3, 4, 0), [(0, 0, 0)], [(0, 0, 1)], 0), False)

    def test_the_zero_vector_parts_nothing(self):
        for reach in (0, 1, 1000):
            self.assertIs(parts_places((0, 0, 0), [(9, 9, 9)], [(-9, -9, -9)], reach), False)

    def test_what_is_parted_is_farther_than_the_reach(self):
        chance = random.Random(14)
        parted = 0
        for _ in range(2000):
            way = tuple(chance.randint(-4, 4) for _ in range(3))
            first = [tuple(chance.randint(0, 12) for _ in range(3)) for _ in range(2)]
            second = [tuple(chance.randint(-12, 0) for _ in range(3)) for _ in range(2)]
            reach = chance.randint(0, 8)
            if not parts_places(way, first, second, reach):
                continue
            parted += 1
            for k in range(5):
                for n in range(5):
                    place = [a * (4 - k) + b * k for a, b in zip(first[0], first[1])]
                    other = [a * (4 - n) + b * n for a, b in zip(second[0], second[1])]
                    self.assertGreater(sum((a - b) ** 2 for a, b in zip(place, other)), (4 * reach) ** 2)
        self.assertGreater(parted, 100)


class TestCorners(unittest.TestCase):
    def test_the_order(self):
        self.assertEqual(corners((-1, 2, 5), (1, 3, 7)), [
            (-1, 2, 5), (-1, 2, 7), (-1, 3, 5), (-1, 3, 7), (1, 2, 5), (1, 2, 7), (1, 3, 5), (1, 3, 7),
        ])

    def test_a_flat_box_has_eight_corners(self):
        self.assertEqual(corners((0, 4, 1), (9, 4, 2)), [
            (0, 4, 1), (0, 4, 2), (0, 4, 1), (0, 4, 2), (9, 4, 1), (9, 4, 2), (9, 4, 1), (9, 4, 2),
        ])
        self.assertEqual(corners((3, 3, 3), (3, 3, 3)), [(3, 3, 3)] * 8)


if __name__ == "__main__":
    unittest.main()
