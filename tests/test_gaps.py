"""Points [7] and [8]: gaps, and the gap of a place and a line."""
import unittest

from armwarrant.shapes.gaps import Gap, place_gap


class GapCase(unittest.TestCase):
    def check(self, gap, vector, scale):
        self.assertIsInstance(gap, Gap)
        self.assertIs(type(gap.vector), tuple)
        self.assertEqual((gap.vector, gap.scale), (vector, scale))


class TestGap(GapCase):
    def test_fields(self):
        self.check(Gap((1, -2, 3), 4), (1, -2, 3), 4)

    def test_beyond_at_the_exact_length_and_beside_it(self):
        gap = Gap((2, 3, 6), 1)
        self.assertEqual([gap.beyond(distance) for distance in (0, 6, 7, 8)], [True, True, False, False])

    def test_beyond_with_a_scale(self):
        gap = Gap((20, -30, 60), 10)
        self.assertEqual([gap.beyond(distance) for distance in (6, 7, 8)], [True, False, False])

    def test_beyond_where_the_length_is_not_whole(self):
        gap = Gap((3, 0, 0), 2)
        self.assertEqual([gap.beyond(distance) for distance in (0, 1, 2)], [True, True, False])
        self.assertIs(Gap((10 ** 9, 1, 0), 1).beyond(10 ** 9), True)

    def test_the_zero_gap_is_beyond_nothing(self):
        self.assertIs(Gap((0, 0, 0), 5).beyond(0), False)
        self.assertIs(Gap((0, 0, 0), 5).beyond(1), False)

    def test_within_at_the_exact_length_and_beside_it(self):
        gap = Gap((2, 3, 6), 1)
        self.assertEqual([gap.within(distance) for distance in (0, 6, 7, 8)], [False, False, True, True])

    def test_within_with_a_scale(self):
        gap = Gap((20, -30, 60), 10)
        self.assertEqual([gap.within(distance) for distance in (6, 7, 8)], [False, True, True])

    def test_within_a_negative_distance_is_nothing(self):
        self.assertIs(Gap((0, 0, 0), 1).within(-1), False)
        self.assertIs(Gap((2, 3, 6), 1).within(-7), False)
        self.assertIs(Gap((2, 3, 6), 1).within(-8), False)

    def test_the_zero_gap_is_within_zero(self):
        self.assertIs(Gap((0, 0, 0), 5).within(0), True)

    def test_shorter(self):
        self.assertIs(Gap((2, 3, 6), 1).shorter(Gap((0, 8, 0), 1)), True)
        self.assertIs(Gap((0, 8, 0), 1).shorter(Gap((2, 3, 6), 1)), False)

    def test_shorter_with_scales(self):
        self.assertIs(Gap((0, 20, 0), 3).shorter(Gap((2, 3, 6), 1)), True)
        self.assertIs(Gap((2, 3, 6), 1).shorter(Gap((0, 20, 0), 3)), False)
        self.assertIs(Gap((0, 22, 0), 3).shorter(Gap((2, 3, 6), 1)), False)
        self.assertIs(Gap((2, 3, 6), 1).shorter(Gap((0, 22, 0), 3)), True)

    def test_of_equal_gaps_neither_is_shorter(self):
        for first, second in (
            (Gap((2, 3, 6), 1), Gap((2, 3, 6), 1)),
            (Gap((2, 3, 6), 1), Gap((0, -21, 0), 3)),
            (Gap((0, 0, 0), 1), Gap((0, 0, 0), 9)),
        ):
            self.assertIs(first.shorter(second), False)
            self.assertIs(second.shorter(first), False)


class TestPlaceGap(GapCase):
    def test_part_below_zero(self):
        self.check(place_gap((-3, 4, 1), (0, 0, 0), (10, 0, 0)), (-3, 4, 1), 1)

    def test_part_zero(self):
        self.check(place_gap((5, 4, 1), (5, 0, 0), (15, 0, 0)), (0, 4, 1), 1)

    def test_part_one(self):
        self.check(place_gap((1, 4, 0), (0, 0, 0), (10, 0, 0)), (0, 400, 0), 100)
        self.check(place_gap((1, 0, 5), (0, 0, 0), (1, 1, 0)), (1, -1, 10), 2)

    def test_part_between(self):
        self.check(place_gap((3, 4, -1), (0, 0, 0), (10, 0, 0)), (0, 400, -100), 100)
        self.check(place_gap((1, 5, 2), (1, 1, 1), (4, 5, 1)), (-48, 36, 25), 25)

    def test_part_one_below_the_size(self):
        # along = (2, 1, 0), so the size is 5; away = (1, 2, 7), so the part is 4.
        self.check(place_gap((1, 2, 7), (0, 0, 0), (2, 1, 0)), (-3, 6, 35), 5)

    def test_part_equal_to_the_size(self):
        self.check(place_gap((10, 4, 0), (0, 0, 0), (10, 0, 0)), (0, 4, 0), 1)

    def test_part_above_the_size(self):
        self.check(place_gap((13, 4, 0), (0, 0, 0), (10, 0, 0)), (3, 4, 0), 1)

    def test_a_line_whose_ends_are_equal(self):
        self.check(place_gap((1, 2, 3), (4, 4, 4), (4, 4, 4)), (-3, -2, -1), 1)
        self.check(place_gap((4, 4, 4), (4, 4, 4), (4, 4, 4)), (0, 0, 0), 1)

    def test_a_place_on_the_line(self):
        self.check(place_gap((3, 0, 0), (0, 0, 0), (10, 0, 0)), (0, 0, 0), 100)
        self.check(place_gap((0, 0, 0), (0, 0, 0), (10, 0, 0)), (0, 0, 0), 1)
        self.check(place_gap((10, 0, 0), (0, 0, 0), (10, 0, 0)), (0, 0, 0), 1)

    def test_far_places(self):
        far = 10 ** 9
        gap = place_gap((0, far, 0), (-far, 0, 0), (far, 0, 0))
        self.check(gap, (0, 4 * far ** 3, 0), 4 * far ** 2)
        self.assertTrue(gap.beyond(far - 1))
        self.assertFalse(gap.beyond(far))


if __name__ == "__main__":
    unittest.main()
