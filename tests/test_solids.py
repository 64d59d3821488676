"""Points [26] to [28]: solids, what is beyond and within them, and the ways that part lines from them."""
import random
import unittest

from armwarrant.errors import ArmwarrantError, InvalidShape
from armwarrant.judge.solids import Block, Box, Wall
from armwarrant.shapes.boxes import box_gap
from armwarrant.shapes.lines import line_gap
from armwarrant.shapes.parting import direction

FAR = 10000000
THICK = 1000000
HIGH = 100000000000
ZERO = (0, 0, 0)
TOP = 2 ** 20


def at(place):
    return (place, place)


def with_one(value, k):
    return tuple(value if n == k else 0 for n in range(3))


class ShapeCase(unittest.TestCase):
    def check_field(self, field, make, *values):
        with self.subTest(make=make, values=values):
            with self.assertRaises(InvalidShape) as caught:
                make(*values)
            self.assertEqual(caught.exception.field, field)
            self.assertIsInstance(caught.exception, ArmwarrantError)

    def check_beyond(self, solid, line, radius, told):
        self.assertIs(solid.is_beyond(line, radius), told)
        self.assertIs(solid.is_beyond((line[1], line[0]), radius), told)

    def check_within(self, solid, line, radius, told):
        self.assertIs(solid.is_within(line, radius), told)
        self.assertIs(solid.is_within((line[1], line[0]), radius), told)


class TestBlock(ShapeCase):
    def test_fields(self):
        self.assertEqual(vars(Block((1, 2, 3), (4, -5, 6), 7)), dict(first=(1, 2, 3), last=(4, -5, 6), radius=7))

    def test_at_the_bounds(self):
        block = Block((FAR, -FAR, FAR), (-FAR, FAR, -FAR), THICK)
        self.assertEqual((block.first, block.last, block.radius), ((FAR, -FAR, FAR), (-FAR, FAR, -FAR), THICK))
        self.assertEqual(Block(ZERO, ZERO, 0).radius, 0)

    def test_ends_beyond_their_bounds(self):
        for k in range(3):
            for x in (FAR + 1, -FAR - 1, 5 * FAR):
                self.check_field("ends", Block, with_one(x, k), ZERO, 1)
                self.check_field("ends", Block, ZERO, with_one(x, k), 1)

    def test_a_radius_beyond_its_bounds(self):
        self.check_field("radius", Block, ZERO, ZERO, -1)
        self.check_field("radius", Block, ZERO, ZERO, THICK + 1)

    def test_two_values_wrong(self):
        self.check_field("ends", Block, (FAR + 1, 0, 0), ZERO, -1)
        self.check_field("ends", Block, ZERO, (0, 0, -FAR - 1), THICK + 1)


class TestBox(ShapeCase):
    def test_fields(self):
        self.assertEqual(vars(Box((1, -5, 3), (4, 2, 6), 7)), dict(low=(1, -5, 3), high=(4, 2, 6), radius=7))

    def test_at_the_bounds(self):
        box = Box((-FAR, -FAR, -FAR), (FAR, FAR, FAR), THICK)
        self.assertEqual((box.low, box.high, box.radius), ((-FAR, -FAR, -FAR), (FAR, FAR, FAR), THICK))
        self.assertEqual(Box((FAR, FAR, FAR), (FAR, FAR, FAR), 0).low, (FAR, FAR, FAR))

    def test_flat_boxes(self):
        for k in range(3):
            high = tuple(0 if n == k else 5 for n in range(3))
            self.assertEqual(Box(ZERO, high, 0).high, high)
        self.assertEqual(Box((2, 3, 4), (2, 3, 4), 0).high, (2, 3, 4))

    def test_corners_beyond_their_bounds(self):
        for k in range(3):
            self.check_field("corners", Box, with_one(-FAR - 1, k), ZERO, 1)
            self.check_field("corners", Box, ZERO, with_one(FAR + 1, k), 1)
            self.check_field("corners", Box, with_one(FAR + 1, k), (FAR + 1, FAR + 1, FAR + 1), 1)
            self.check_field("corners", Box, (-FAR - 1, -FAR - 1, -FAR - 1), with_one(-FAR - 1, k), 1)

    def test_low_above_high(self):
        for k in range(3):
            self.check_field("corners", Box, with_one(1, k), ZERO, 1)
            self.check_field("corners", Box, (-3, -3, -3), tuple(-4 if n == k else 9 for n in range(3)), 1)

    def test_a_radius_beyond_its_bounds(self):
        self.check_field("radius", Box, ZERO, ZERO, -1)
        self.check_field("radius", Box, ZERO, ZERO, THICK + 1)

    def test_two_values_wrong(self):
        self.check_field("corners", Box, ZERO, (FAR + 1, 0, 0), -1)
        self.check_field("corners", Box, (0, 1, 0), ZERO, THICK + 1)


class TestWall(ShapeCase):
    def test_fields(self):
        self.assertEqual(vars(Wall((1, -2, 3), -4)), dict(normal=(1, -2, 3), bound=-4))

    def test_at_the_bounds(self):
        for k in range(3):
            for x in (1, -1, 1000, -1000):
                self.assertEqual(Wall(with_one(x, k), 0).normal, with_one(x, k))
        for bound in (HIGH, -HIGH):
            self.assertEqual(Wall((1000, -1000, 1000), bound).bound, bound)

    def test_normals_that_are_not_allowed(self):
        self.check_field("normal", Wall, ZERO, 1)
        for k in range(3):
            for x in (1001, -1001):
                self.check_field("normal", Wall, with_one(x, k), 1)
                self.check_field("normal", Wall, tuple(x if n == k else 1 for n in range(3)), 1)

    def test_a_bound_beyond_its_bounds(self):
        self.check_field("bound", Wall, (1, 0, 0), HIGH + 1)
        self.check_field("bound", Wall, (1, 0, 0), -HIGH - 1)

    def test_two_values_wrong(self):
        self.check_field("normal", Wall, ZERO, HIGH + 1)
        self.check_field("normal", Wall, (0, 0, 1001), -HIGH - 1)


class TestBeyondAndWithin(ShapeCase):
    def test_a_block_at_the_bound_and_beside_it(self):
        # The lines are 50 apart: (30, 40, 0).
        block = Block((0, 0, -9), (0, 0, 9), 20)
        line = ((30, 40, -5), (90, 120, -5))
        for radius, beyond in ((0, True), (29, True), (30, False), (31, False)):
            self.check_beyond(block, line, radius, beyond)
            self.check_within(block, line, radius, not beyond)

    def test_a_box_at_the_bound_and_beside_it(self):
        # The nearest place of the box is its corner (0, 0, 9).
        box = Box((-10, -10, 0), (0, 0, 9), 20)
        line = ((30, 40, 9), (90, 120, 9))
        for radius, beyond in ((0, True), (29, True), (30, False), (31, False)):
            self.check_beyond(box, line, radius, beyond)
            self.check_within(box, line, radius, not beyond)

    def test_a_length_that_is_no_integer(self):
        # The gap is 1.41.. long.
        for solid in (Block(ZERO, ZERO, 0), Box((-5, -5, 0), ZERO, 0)):
            self.check_beyond(solid, at((1, 1, 0)), 1, True)
            self.check_within(solid, at((1, 1, 0)), 1, False)
            self.check_beyond(solid, at((1, 1, 0)), 2, False)
            self.check_within(solid, at((1, 1, 0)), 2, True)

    def test_a_wall_at_the_bound_and_beside_it(self):
        # The length of the normal is 5, and the least inner product is 30 * 3 + 40 * 4 = 250.
        line = ((30, 40, 7), (90, 120, -7))
        for bound, beyond, within in ((99, True, False), (100, False, False), (249, False, False)):
            self.check_beyond(Wall((3, 4, 0), bound), line, 30, beyond)
            self.check_within(Wall((3, 4, 0), bound), line, 30, within)
        for bound, within in ((249, False), (250, True), (251, True)):
            self.check_within(Wall((3, 4, 0), bound), line, 0, within)
            self.check_beyond(Wall((3, 4, 0), bound), line, 0, not within)

    def test_the_length_of_a_normal_is_rounded_up(self):
        # The length is 1.41.., rounded up 2.
        self.check_beyond(Wall((1, 1, 0), 0), at((11, 10, 0)), 10, True)
        self.check_beyond(Wall((1, 1, 0), 0), at((10, 10, 0)), 10, False)

    def test_the_radius_does_not_count_for_what_is_within_a_wall(self):
        for radius in (0, 1, 1000):
            self.check_within(Wall((0, 0, 2), 10), ((0, 0, 5), (0, 0, 9)), radius, True)
            self.check_within(Wall((0, 0, 2), 9), ((0, 0, 5), (0, 0, 9)), radius, False)

    def test_a_negative_radius_is_never_beyond(self):
        line = at((100, 0, 0))
        for solid in (Block(ZERO, ZERO, 20), Box(ZERO, ZERO, 20), Wall((1, 0, 0), 10)):
            self.check_beyond(solid, line, 0, True)
            for radius in (-1, -20, -21, -1000):
                self.check_beyond(solid, line, radius, False)

    def test_a_negative_radius_within_a_block_or_a_box(self):
        for solid in (Block(ZERO, ZERO, 20), Box(ZERO, ZERO, 20)):
            self.check_within(solid, at((15, 0, 0)), -5, True)
            self.check_within(solid, at((15, 0, 0)), -6, False)
            self.check_within(solid, at((16, 0, 0)), -5, False)
            # The sum of the radii is 0, and below.
            self.check_within(solid, at(ZERO), -20, True)
            self.check_within(solid, at((1, 0, 0)), -20, False)
            self.check_within(solid, at(ZERO), -21, False)
            self.check_within(solid, at((1, 0, 0)), -40, False)

    def test_a_negative_radius_is_never_within_a_wall(self):
        self.check_within(Wall((1, 0, 0), 10), at(ZERO), 0, True)
        for radius in (-1, -1000):
            self.check_within(Wall((1, 0, 0), 10), at(ZERO), radius, False)

    def test_lines_that_go_through(self):
        for solid in (Block((0, 0, -9), (0, 0, 9), 0), Box((-1, -1, -1), (1, 1, 1), 0), Wall((-1, 0, 0), 2)):
            self.check_within(solid, ((-50, 0, 0), (50, 0, 0)), 0, True)
            self.check_beyond(solid, ((-50, 0, 0), (50, 0, 0)), 0, False)

    def test_a_wall_on_each_side(self):
        line = ((5, 0, 0), (9, 0, 0))
        self.check_beyond(Wall((1, 0, 0), 4), line, 0, True)
        self.check_beyond(Wall((-1, 0, 0), -10), line, 0, True)
        self.check_beyond(Wall((-1, 0, 0), -9), line, 0, False)
        self.check_within(Wall((-1, 0, 0), -9), line, 0, True)


class TestWays(ShapeCase):
    def test_the_way_from_a_block_and_a_box_leads_to_the_line(self):
        line = ((30, 40, -5), (90, 120, -5))
        # The gap has the scale 18 * 18, and the way is not shortened.
        self.assertEqual(Block((0, 0, -9), (0, 0, 9), 20).way_from(at((30, 40, 2))), (30 * 324, 40 * 324, 0))
        self.assertEqual(Box((-10, -10, -9), (0, 0, 9), 20).way_from(line), (30, 40, 0))
        self.assertEqual(Block((0, 0, 7), (0, 0, 7), 20).way_from(at((0, 0, 2))), (0, 0, -5))

    def test_the_way_is_the_direction_of_the_gap(self):
        chance = random.Random(28)
        for _ in range(200):
            size = 10 ** chance.randint(1, 6)
            a, b, c, d = [tuple(chance.randint(-size, size) for _ in range(3)) for _ in range(4)]
            line = (a, b)
            block = Block(c, d, 1)
            self.assertEqual(block.way_from(line), direction(line_gap(line, (c, d)).vector))
            low, high = (tuple(pick(x, y) for x, y in zip(c, d)) for pick in (min, max))
            self.assertEqual(Box(low, high, 1).way_from(line), direction(box_gap(line, low, high).vector))

    def test_a_long_way_is_made_a_direction(self):
        for solid in (Block(ZERO, ZERO, 0), Box(ZERO, ZERO, 0)):
            self.assertEqual(solid.way_from(at((TOP, 0, 0))), (TOP, 0, 0))
            self.assertEqual(solid.way_from(at((TOP + 1, 3, 0))), (TOP // 2 + 1, 2, 0))

    def test_the_way_from_a_wall_is_its_normal(self):
        for line in (at(ZERO), ((5, 0, 0), (9, 9, 9)), at((-7, 0, 0))):
            self.assertEqual(Wall((3, -4, 1000), 5).way_from(line), (3, -4, 1000))

    def test_the_way_of_things_that_meet_is_zero(self):
        for solid in (Block(ZERO, ZERO, 5), Box(ZERO, ZERO, 5)):
            self.assertEqual(solid.way_from(((-5, 0, 0), (5, 0, 0))), ZERO)


class TestParted(ShapeCase):
    def test_by_the_way_of_the_gap(self):
        line = ((30, 40, -5), (90, 120, -5))
        for solid in (Block((0, 0, -9), (0, 0, 9), 20), Box((-10, -10, -9), (0, 0, 9), 20)):
            # The length of the gap is 50.
            for radius, told in ((0, True), (29, True), (30, False)):
                self.assertIs(solid.is_parted((30, 40, 0), line, radius), told)
                self.assertIs(solid.is_parted((3, 4, 0), line, radius), told)
                self.assertIs(solid.is_parted((-3, -4, 0), line, radius), False)

    def test_a_way_of_the_gap_that_does_not_part(self):
        # The vector of the gap is (1, 1, 0), 1.41.. long and rounded up 2: 2 is not above 2 times 1.
        for solid in (Block(ZERO, ZERO, 0), Box(ZERO, ZERO, 0)):
            self.assertIs(solid.is_beyond(at((1, 1, 0)), 1), True)
            self.assertEqual(solid.way_from(at((1, 1, 0))), (1, 1, 0))
            self.assertIs(solid.is_parted((1, 1, 0), at((1, 1, 0)), 1), False)
            self.assertIs(solid.is_parted((1000, 1000, 0), at((1, 1, 0)), 1), True)

    def test_every_end_and_every_corner_counts(self):
        block = Block((0, 0, 0), (8, 0, 0), 1)
        box = Box((0, -3, -4), (8, 5, 6), 1)
        for x, told in ((9, False), (10, False), (11, False), (12, True)):
            for solid in (block, box):
                self.assertIs(solid.is_parted((1, 0, 0), ((20, 0, 0), (x, 0, 0)), 2), told)
                self.assertIs(solid.is_parted((1, 0, 0), ((x, 0, 0), (20, 0, 0)), 2), told)
        for way, place in (((0, 1, 0), (0, 7, 0)), ((0, 0, 1), (0, 0, 8)), ((0, -1, 0), (0, -5, 0))):
            self.assertIs(box.is_parted(way, at(place), 0), True)
            self.assertIs(box.is_parted(way, at(place), 1), False)
        self.assertIs(Block((8, 0, 0), (0, 0, 0), 1).is_parted((1, 0, 0), at((11, 0, 0)), 2), False)

    def test_the_zero_vector_parts_nothing(self):
        for solid in (Block(ZERO, ZERO, 0), Box(ZERO, ZERO, 0), Wall((1, 0, 0), 0)):
            self.assertIs(solid.is_parted(ZERO, at((100, 0, 0)), 0), False)

    def test_from_a_wall_by_its_normal_alone(self):
        wall = Wall((3, 4, 0), 100)
        line = ((30, 40, 7), (90, 120, -7))
        self.assertIs(wall.is_parted((3, 4, 0), line, 29), True)
        self.assertIs(wall.is_parted((3, 4, 0), line, 30), False)
        for way in ((6, 8, 0), (-3, -4, 0), (3, 4, 1), (4, 3, 0), (0, 1, 0), ZERO):
            self.assertIs(wall.is_parted(way, line, 0), False)

    def test_from_a_wall_with_a_negative_radius(self):
        self.assertIs(Wall((1, 0, 0), 0).is_parted((1, 0, 0), at((100, 0, 0)), -1), False)

    def test_what_is_parted_is_beyond(self):
        chance = random.Random(27)
        parted = 0
        for _ in range(600):
            places = [tuple(chance.randint(-20, 20) for _ in range(3)) for _ in range(4)]
            low, high = (tuple(pick(x, y) for x, y in zip(*places[:2])) for pick in (min, max))
            line, radius = tuple(places[2:]), chance.randint(0, 6)
            for solid in (Block(*places[:2], chance.randint(0, 6)), Box(low, high, chance.randint(0, 6))):
                for way in (solid.way_from(line), tuple(chance.randint(-9, 9) for _ in range(3))):
                    if solid.is_parted(way, line, radius):
                        parted += 1
                        self.assertIs(solid.is_beyond(line, radius), True)
                self.assertIsNot(solid.is_beyond(line, radius), solid.is_within(line, radius))
        self.assertGreater(parted, 300)


if __name__ == "__main__":
    unittest.main()
