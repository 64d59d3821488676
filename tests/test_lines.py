"""Points [9] and [12]: the gap of two lines."""
import random
import unittest

from armwarrant.shapes.gaps import Gap
from armwarrant.shapes.lines import line_gap

from nearest import is_between_lines, is_nearest_of, row_of_line


class TestLineGap(unittest.TestCase):
    def check(self, first, second, vector, scale):
        gap = line_gap(first, second)
        self.assertIsInstance(gap, Gap)
        self.assertIs(type(gap.vector), tuple)
        self.assertEqual((gap.vector, gap.scale), (vector, scale))

    def test_inside_both_lines(self):
        self.check(((-2, 0, 0), (2, 0, 0)), ((0, -3, 5), (0, 3, 5)), (0, 0, -2880), 576)

    def test_inside_both_lines_off_their_middles(self):
        # u = (4, 0, 0), v = (1, 2, 0), w = (0, -1, 3): n = 64, s = 8, t = 32 lie at 1 / 8 and 1 / 2.
        self.check(((0, 0, 3), (4, 0, 3)), ((0, -1, 0), (1, 1, 0)), (0, 0, 192), 64)

    def test_inside_both_lines_one_part_from_an_end(self):
        # u = (-1, -1, -1), v = (-1, 0, 2), n = 14; s is 1 or 13, or t is 1 or 13.
        second = ((0, 0, 0), (-1, 0, 2))
        self.check(((0, -1, 2), (-1, -2, 1)), second, (10, -15, 5), 14)
        self.check(((0, 2, 1), (-1, 1, 0)), second, (-10, 15, -5), 14)
        self.check(((1, 0, 1), (0, -1, 0)), second, (6, -9, 3), 14)
        self.check(((-1, 1, 2), (-2, 0, 1)), second, (-6, 9, -3), 14)

    def test_an_end_of_one_line_beside_the_inside_of_the_other_one(self):
        # s or t is 0 or n, so the gap is that of the end, with the scale of the other line.
        across = ((-3, 0, 2), (4, 0, 2))
        self.check(((0, 0, 0), (0, 9, 0)), across, (0, 0, -98), 49)
        self.check(((0, 9, 0), (0, 0, 0)), across, (0, 0, -98), 49)
        self.check(across, ((0, 0, 0), (0, 9, 0)), (0, 0, 98), 49)
        self.check(across, ((0, 9, 0), (0, 0, 0)), (0, 0, 98), 49)

    def test_crossing(self):
        self.check(((-2, 0, 0), (2, 0, 0)), ((0, -3, 0), (0, 3, 0)), (0, 0, 0), 576)

    def test_one_line_would_cross_behind_an_end(self):
        # The nearest places of the endless lines are just outside of one line, so an end is nearest.
        self.check(((-2, 0, 0), (2, 0, 0)), ((0, 1, 5), (0, 3, 5)), (0, -16, -80), 16)
        self.check(((-2, 0, 0), (2, 0, 0)), ((0, -3, 5), (0, -1, 5)), (0, 16, -80), 16)
        self.check(((1, 0, 0), (3, 0, 0)), ((0, -3, 5), (0, 3, 5)), (36, 0, -180), 36)
        self.check(((-3, 0, 0), (-1, 0, 0)), ((0, -3, 5), (0, 3, 5)), (-36, 0, -180), 36)

    def test_the_first_end_of_the_first_line(self):
        self.check(((0, 0, 5), (0, 0, 9)), ((-3, 0, 0), (4, 0, 0)), (0, 0, 245), 49)

    def test_the_last_end_of_the_first_line(self):
        self.check(((0, 0, 9), (0, 0, 5)), ((-3, 0, 0), (4, 0, 0)), (0, 0, 245), 49)

    def test_the_first_end_of_the_second_line_turned_round(self):
        self.check(((-3, 0, 0), (4, 0, 0)), ((0, 0, 5), (0, 0, 9)), (0, 0, -245), 49)

    def test_the_last_end_of_the_second_line_turned_round(self):
        self.check(((-3, 0, 0), (4, 0, 0)), ((0, 0, 9), (0, 0, 5)), (0, 0, -245), 49)

    def test_ends_that_are_nearest_to_ends(self):
        self.check(((0, 0, 0), (1, 1, 0)), ((4, 5, 0), (9, 5, 1)), (-3, -4, 0), 1)

    def test_touching_at_an_end(self):
        self.check(((0, 0, 0), (0, 0, 9)), ((-3, 0, 0), (4, 0, 0)), (0, 0, 0), 49)
        self.check(((-3, 0, 0), (4, 0, 0)), ((0, 0, 0), (0, 0, 9)), (0, 0, 0), 49)
        self.check(((0, 0, 0), (3, 0, 0)), ((3, 0, 0), (3, 7, 0)), (0, 0, 0), 1)

    def test_parallel_lines_beside_each_other(self):
        # a and d are equally near: a comes first, with the scale of the second line.
        self.check(((0, 0, 0), (10, 0, 0)), ((-5, 3, 0), (2, 3, 0)), (0, -147, 0), 49)
        # a and c.
        self.check(((0, 0, 0), (10, 0, 0)), ((2, 3, 0), (-5, 3, 0)), (0, -147, 0), 49)
        # b and c.
        self.check(((10, 0, 0), (0, 0, 0)), ((2, 3, 0), (-5, 3, 0)), (0, -147, 0), 49)
        # b and d.
        self.check(((10, 0, 0), (0, 0, 0)), ((-5, 3, 0), (2, 3, 0)), (0, -147, 0), 49)

    def test_parallel_lines_with_an_end_beside_an_end(self):
        # a inside the second line, b and d at an end.
        self.check(((0, 0, 0), (5, 0, 0)), ((-5, 2, 0), (5, 2, 0)), (0, -200, 0), 100)
        # The same with a and b exchanged: now a is at an end, and so has the scale 1.
        self.check(((5, 0, 0), (0, 0, 0)), ((-5, 2, 0), (5, 2, 0)), (0, -2, 0), 1)

    def test_parallel_lines_of_which_the_second_is_inside(self):
        self.check(((0, 0, 0), (10, 0, 0)), ((2, 3, 0), (7, 3, 0)), (0, -300, 0), 100)

    def test_parallel_lines_that_are_not_beside_each_other(self):
        self.check(((0, 0, 0), (10, 0, 0)), ((13, 4, 0), (20, 4, 0)), (-3, -4, 0), 1)
        self.check(((0, 0, 0), (10, 0, 0)), ((-20, 4, 0), (-13, 4, 0)), (13, -4, 0), 1)

    def test_lines_on_one_line(self):
        self.check(((0, 0, 0), (4, 4, 4)), ((6, 6, 6), (9, 9, 9)), (-2, -2, -2), 1)
        self.check(((0, 0, 0), (4, 0, 0)), ((3, 0, 0), (9, 0, 0)), (0, 0, 0), 36)

    def test_equal_lines(self):
        self.check(((0, 1, 2), (10, 4, 5)), ((0, 1, 2), (10, 4, 5)), (0, 0, 0), 1)
        self.check(((0, 1, 2), (10, 4, 5)), ((10, 4, 5), (0, 1, 2)), (0, 0, 0), 1)

    def test_lines_whose_ends_are_equal(self):
        self.check(((1, 2, 3), (1, 2, 3)), ((3, 5, 9), (3, 5, 9)), (-2, -3, -6), 1)
        self.check(((3, 4, 0), (3, 4, 0)), ((0, 0, 0), (10, 0, 0)), (0, 400, 0), 100)
        self.check(((0, 0, 0), (10, 0, 0)), ((3, 4, 0), (3, 4, 0)), (0, -400, 0), 100)
        self.check(((5, 5, 5), (5, 5, 5)), ((5, 5, 5), (5, 5, 5)), (0, 0, 0), 1)

    def test_far_lines(self):
        far = 10 ** 9
        gap = line_gap(((-far, 0, 0), (far, 0, 0)), ((0, -far, 1), (0, far, 1)))
        self.assertEqual((gap.vector, gap.scale), ((0, 0, -16 * far ** 4), 16 * far ** 4))

    def test_the_gap_is_between_nearest_places(self):
        chance = random.Random(9)
        for turn in range(400):
            size = chance.choice((1, 2, 3, 12))
            ends = [tuple(chance.randint(-size, size) for _ in range(3)) for _ in range(4)]
            first, second = (ends[0], ends[1]), (ends[2], ends[3])
            if turn % 4 == 0:
                step = tuple(x - y for x, y in zip(first[1], first[0]))
                factor = chance.choice((-2, -1, 0, 1, 2))
                second = (second[0], tuple(x + factor * y for x, y in zip(second[0], step)))
            gap = line_gap(first, second)
            with self.subTest(first=first, second=second):
                self.assertGreaterEqual(gap.scale, 1)
                self.assertTrue(is_between_lines(gap, first, second))
                self.assertTrue(is_nearest_of(gap, row_of_line(first, 6), row_of_line(second, 6)))


if __name__ == "__main__":
    unittest.main()
