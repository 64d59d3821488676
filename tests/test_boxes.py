"""Points [10] to [12]: the gap of a line and a box."""
import random
import unittest

from armwarrant.shapes.boxes import box_gap
from armwarrant.shapes.gaps import Gap

from nearest import is_between_line_and_box, is_nearest_of, row_of_box, row_of_line

LOW, HIGH = (0, 0, 0), (10, 10, 10)


class BoxCase(unittest.TestCase):
    def check(self, line, vector, scale, low=LOW, high=HIGH):
        gap = box_gap(line, low, high)
        self.assertIsInstance(gap, Gap)
        self.assertIs(type(gap.vector), tuple)
        self.assertEqual((gap.vector, gap.scale), (vector, scale))


class TestBoxGap(BoxCase):
    def test_a_line_inside(self):
        self.check(((1, 2, 3), (9, 8, 7)), (0, 0, 0), 1)
        self.check(((0, 0, 0), (10, 10, 10)), (0, 0, 0), 1)

    def test_a_line_outside_of_one_side(self):
        self.check(((5, 5, 14), (5, 5, 20)), (0, 0, 4), 1)
        self.check(((5, 5, 20), (5, 5, 14)), (0, 0, 4), 1)
        self.check(((5, -9, 5), (5, -4, 6)), (0, -4, 0), 1)

    def test_a_line_outside_of_several_sides(self):
        self.check(((12, 13, -6), (20, 20, -20)), (2, 3, -6), 1)
        self.check(((-30, -20, -9), (-2, -3, -6)), (-2, -3, -6), 1)

    def test_a_line_through_the_box(self):
        self.check(((-5, 5, 5), (15, 5, 5)), (0, 0, 0), 20)
        self.check(((15, 5, 5), (-5, 5, 5)), (0, 0, 0), 20)

    def test_a_line_that_ends_inside_or_begins_inside(self):
        self.check(((5, 5, 5), (5, 5, 30)), (0, 0, 0), 1)
        self.check(((5, 5, 30), (5, 5, 5)), (0, 0, 0), 25)

    def test_a_line_that_touches_a_corner(self):
        self.check(((10, 10, 10), (14, 15, 16)), (0, 0, 0), 1)
        self.check(((14, 15, 16), (10, 10, 10)), (0, 0, 0), 1)

    def test_a_line_along_a_side(self):
        self.check(((2, 20, 5), (8, 20, 5)), (0, 10, 0), 1)
        self.check(((-5, 12, 5), (15, 12, 5)), (0, 40, 0), 20)

    def test_a_line_along_an_edge(self):
        self.check(((-6, 13, 14), (18, 13, 14)), (0, 72, 96), 24)

    def test_a_line_that_is_a_place(self):
        self.check(((12, 13, -6), (12, 13, -6)), (2, 3, -6), 1)
        self.check(((4, 10, 0), (4, 10, 0)), (0, 0, 0), 1)

    def test_a_flat_box(self):
        self.check(((-2, 5, 3), (12, 5, 3)), (0, 0, -28), 14, (0, 0, 5), (10, 10, 5))
        self.check(((5, 5, -3), (5, 5, 7)), (0, 0, 0), 10, (0, 0, 5), (10, 10, 5))

    def test_a_box_that_is_a_place(self):
        # x crosses the place at 1 / 4, y nowhere; behind that the flat part is (4 * 1 + 2 * 3) / (16 + 4).
        self.check(((0, 0, 0), (4, 2, 0)), (20, -40, 0), 20, (1, 3, 0), (1, 3, 0))

    def test_far_lines_and_boxes(self):
        far = 10 ** 9
        line = ((-far, far, 0), (far, far, 1))
        self.check(line, (0, (far - 1) * far * 2, 0), 2 * far, (0, 0, -far), (1, 1, far))


class TestRowOfParts(BoxCase):
    def test_the_earliest_of_the_row_has_the_scale_of_its_part(self):
        # z comes inside at 8 / 30, after x at 5 / 20, so the part of z is the earliest one of the shortest.
        self.check(((-5, 12, -8), (15, 12, 22)), (0, 60, 0), 30)

    def test_the_row_is_ascending(self):
        # z comes inside at 9 / 30, and x leaves at 12 / 20: both are among the shortest, but z is earlier.
        self.check(((-2, 12, -9), (18, 12, 21)), (0, 60, 0), 30)
        # The same, where both go down: x comes inside at 2 / 20, z at 9 / 30, and x leaves at 12 / 20.
        self.check(((12, 12, 19), (-8, 12, -11)), (0, 60, 0), 30)
        # Of x with 9 / 24 and z with 2 / 40, x comes inside later.
        self.check(((-9, 12, -2), (15, 12, 38)), (0, 0, 0), 24, (0, 0, 0), (10, 20, 20))

    def test_equal_parts_keep_the_order_of_the_coordinates(self):
        self.check(((-2, -4, 5), (2, 4, 5)), (0, 0, 0), 4)
        self.check(((-4, -2, 5), (4, 2, 5)), (0, 0, 0), 8)
        self.check(((5, -4, -2), (5, 4, 2)), (0, 0, 0), 8)
        self.check(((-2, 5, -4), (2, 5, 4)), (0, 0, 0), 4)

    def test_equal_parts_at_high_and_low_sides(self):
        # x goes down to its high side at 2 / 4, y goes up to its low side at 4 / 8.
        self.check(((12, -4, 5), (8, 4, 5)), (0, 0, 0), 4)
        self.check(((14, -2, 5), (6, 2, 5)), (0, 0, 0), 8)

    def test_an_end_on_a_side_is_no_part_of_its_own(self):
        self.check(((0, 5, 12), (10, 5, 12)), (0, 0, 2), 1)
        self.check(((10, 5, 12), (0, 5, 12)), (0, 0, 2), 1)

    def test_a_side_is_reached_one_part_from_an_end(self):
        self.check(((-1, 12, 5), (9, 12, 5)), (0, 20, 0), 10)
        self.check(((-9, 12, 5), (1, 12, 5)), (0, 20, 0), 10)


class TestFlatParts(BoxCase):
    def test_one_that_exists_beyond_the_high_sides(self):
        # Beside the edge x = y = 10 the flat part is (14 * 4 + 14 * 10) / (14 * 14 + 14 * 14).
        self.check(((6, 20, 5), (20, 6, 5)), (1176, 1176, 0), 392)

    def test_one_that_exists_beyond_the_low_sides(self):
        self.check(((4, -10, 5), (-10, 4, 5)), (-1176, -1176, 0), 392)

    def test_one_that_exists_beyond_a_low_and_a_high_side(self):
        self.check(((4, 5, 20), (-10, 5, 6)), (-1176, 0, 1176), 392)

    def test_one_with_unequal_steps(self):
        # Between 4 / 8 and 10 / 12 both x and y are outside: (8 * 4 + 12 * 10) / (64 + 144) = 152 / 208.
        self.check(((6, 20, 5), (14, 8, 5)), (384, 256, 0), 208)

    def test_one_with_three_coordinates_outside(self):
        # The flat part near the corner is (20 * 5 + 20 * 5 + 40 * 20) / (400 + 400 + 1600).
        self.check(((5, 5, 30), (25, 25, -10)), (8000, 8000, 8000), 2400)

    def test_one_behind_the_end_does_not_exist(self):
        self.check(((6, 20, 5), (12, 14, 5)), (2, 4, 0), 1)

    def test_one_before_the_beginning_does_not_exist(self):
        self.check(((12, 14, 5), (6, 20, 5)), (2, 4, 0), 1)

    def test_one_behind_its_neighbours_does_not_exist(self):
        # Before 10 / 20, x and y are outside: 1400 / 2000 lies behind. Between 26 / 40 and 18 / 20,
        # x and z are: 560 / 800 lies there, at the same place of the line, but has a scale of its own.
        self.check(((118, 126, 90), (98, 86, 110)), (3200, 0, 3200), 800, (0, 0, 0), (100, 100, 100))

    def test_one_with_the_denominator_zero_does_not_exist(self):
        self.check(((2, 20, 15), (8, 20, 15)), (0, 10, 5), 1)
        self.check(((-5, 12, 13), (15, 12, 13)), (0, 40, 60), 20)

    def test_one_at_a_neighbour_adds_nothing(self):
        self.check(((13, 13, 5), (20, 6, 5)), (3, 3, 0), 1)

    def test_a_coordinate_inside_does_not_count(self):
        # z also goes, but stays inside, so the part is that of the line without z.
        self.check(((6, 20, 1), (20, 6, 9)), (1176, 1176, 0), 392)


class TestNearest(unittest.TestCase):
    def test_the_gap_is_between_nearest_places(self):
        chance = random.Random(11)
        for _ in range(400):
            size = chance.choice((2, 4, 15))
            line = tuple(tuple(chance.randint(-size, size) for _ in range(3)) for _ in range(2))
            sides = [sorted(chance.randint(-size // 2, size // 2) for _ in range(2)) for _ in range(3)]
            low, high = tuple(side[0] for side in sides), tuple(side[1] for side in sides)
            gap = box_gap(line, low, high)
            with self.subTest(line=line, low=low, high=high):
                self.assertGreaterEqual(gap.scale, 1)
                self.assertTrue(is_between_line_and_box(gap, line, low, high))
                self.assertTrue(is_nearest_of(gap, row_of_line(line, 8), row_of_box(low, high, 3)))


if __name__ == "__main__":
    unittest.main()
