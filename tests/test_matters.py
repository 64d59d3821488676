"""Points [29] and [30]: movers, their bodies, lines and unknowns; matters and their pairs."""
import unittest

from things import FAR, ZERO, ball, slide, slider

from armwarrant.arms.arm import Arm, Body, Capsule
from armwarrant.arms.frames import spot, unknown
from armwarrant.arms.joints import Joint
from armwarrant.arms.moves import Move
from armwarrant.judge.matters import Matter, Mover
from armwarrant.judge.solids import Block, Box, Wall


def turning(axis, offset, **others):
    return Joint(True, axis, offset, -1000000, 1000000, **others)


def mover_of(links, held=(), joints=4, beside=()):
    """Return a mover at rest with balls on links, of the radii 1, 2 and so on."""
    arm = Arm([slide() for _ in range(joints)], [
        Capsule(link, ball(ZERO, at + 1)) for at, link in enumerate(links)
    ], beside=beside)
    return Mover(arm, Move(arm, [0] * joints, [0] * joints), held)


class TestMover(unittest.TestCase):
    def test_fields(self):
        arm = Arm([slide()], [])
        move = Move(arm, [0], [9])
        held = (ball(ZERO, 1),)
        self.assertEqual(vars(Mover(arm, move, held)), dict(arm=arm, move=move, held=held))
        self.assertEqual(vars(Mover(arm, move)), dict(arm=arm, move=move, held=()))

    def test_the_held_bodies_are_a_tuple_also_if_the_list_is_changed_later(self):
        held = [ball(ZERO, 1), ball(ZERO, 2)]
        mover = mover_of([1], held)
        first = held[0]
        held.append(ball(ZERO, 3))
        held[0] = ball(ZERO, 4)
        self.assertIs(type(mover.held), tuple)
        self.assertEqual(len(mover.held), 2)
        self.assertIs(mover.held[0], first)
        self.assertEqual([body.radius for _, body in mover.bodies()], [1, 1, 2])

    def test_bodies_are_the_capsules_and_then_what_is_held(self):
        held = [ball(ZERO, 7), ball(ZERO, 8)]
        mover = mover_of([3, 0, 4, 1], held)
        self.assertEqual(
            [(link, body.radius) for link, body in mover.bodies()], [(3, 1), (0, 2), (4, 3), (1, 4), (4, 7), (4, 8)]
        )
        self.assertIs(mover.bodies()[0][1], mover.arm.capsules[0].body)
        self.assertIs(mover.bodies()[4][1], held[0])
        self.assertIs(type(mover.bodies()), list)
        self.assertTrue(all(type(pair) is tuple for pair in mover.bodies()))

    def test_held_bodies_are_fixed_to_the_last_link(self):
        for joints in range(1, 7):
            mover = mover_of([0], [ball(ZERO, 9)], joints)
            self.assertEqual([link for link, _ in mover.bodies()], [0, joints])

    def test_four_held_bodies(self):
        mover = mover_of([], [ball(ZERO, k) for k in range(4)], 1)
        self.assertEqual([body.radius for _, body in mover.bodies()], [0, 1, 2, 3])

    def test_without_bodies(self):
        mover = mover_of([])
        self.assertEqual(mover.bodies(), [])
        self.assertEqual(mover.lines((0, 0)), [])
        self.assertEqual(mover.unknowns([1, 1, 1, 1]), [])

    def test_lines_of_a_slide(self):
        body = Body((0, 0, 0), (10, 20, -30), 5)
        mover = slider(100, 900, [body, ball((0, 7, 0), 1)], [ball((0, 0, 9), 3)])
        self.assertEqual(
            mover.lines((0, 0)),
            [((500, 0, 0), (510, 20, -30)), ((500, 7, 0), (500, 7, 0)), ((500, 0, 9), (500, 0, 9))],
        )
        self.assertEqual([mover.lines((1, at))[0][0] for at in (0, 1)], [(300, 0, 0), (700, 0, 0)])
        self.assertEqual([mover.lines((2, at))[0][1] for at in range(4)], [(x, 20, -30) for x in (210, 410, 610, 810)])
        self.assertIs(type(mover.lines((0, 0))), list)
        self.assertTrue(all(type(line) is tuple for line in mover.lines((0, 0))))

    def test_lines_are_in_the_middle_rounded_down(self):
        self.assertEqual(slider(0, 3, [ball(ZERO, 1)]).lines((0, 0)), [((1, 0, 0), (1, 0, 0))])
        self.assertEqual(slider(0, -3, [ball(ZERO, 1)]).lines((0, 0)), [((-2, 0, 0), (-2, 0, 0))])

    def test_lines_at_a_deep_part(self):
        mover = slider(0, 2 ** 20, [ball(ZERO, 1)])
        self.assertEqual(mover.lines((19, 5)), [((11, 0, 0), (11, 0, 0))])
        self.assertEqual(mover.lines((19, 2 ** 19 - 1))[0][0], (2 ** 20 - 1, 0, 0))

    def test_lines_of_a_rest(self):
        mover = slider(77, 77, [ball(ZERO, 1)])
        for part in ((0, 0), (1, 1), (20, 2 ** 20 - 1)):
            self.assertEqual(mover.lines(part), [((77, 0, 0), (77, 0, 0))])

    def test_lines_and_unknowns_of_bodies_on_their_links(self):
        arm = Arm(
            [turning(2, (5, 6, 700), box=3, error=9), turning(1, (0, 0, 300), error=2), slide(0, error=4, box=1)],
            [Capsule(k, Body((k, 20, 3), (50, -60, 70), k)) for k in (0, 3, 1, 2)],
        )
        move = Move(arm, [0, -9000, 17], [500000, 8000, 17])
        held = [Body((9, 9, 9), (0, 90, 0), 5)]
        mover = Mover(arm, move, held)
        for part in ((0, 0), (1, 1), (5, 13)):
            row = move.middle(part)
            told = [(spot(arm, row, k, body.first), spot(arm, row, k, body.last)) for k, body in mover.bodies()]
            self.assertEqual(mover.lines(part), told)
            self.assertEqual(len(told), 5)
        for halves in ([0, 0, 0], [1, 1, 0], [125001, 4251, 0]):
            told = [unknown(arm, halves, k, body) for k, body in mover.bodies()]
            self.assertEqual(mover.unknowns(halves), told)

    def test_unknowns_of_a_slide(self):
        mover = slider(0, 9, [ball(ZERO, 1), ball((5, 0, 0), 2)], [ball(ZERO, 3)], error=10, box=100)
        self.assertEqual(mover.unknowns([0]), [212, 212, 212])
        self.assertEqual(mover.unknowns([1000]), [1212, 1212, 1212])
        self.assertIs(type(mover.unknowns([0])), list)


class TestMatter(unittest.TestCase):
    def test_fields(self):
        mover, other = mover_of([1]), mover_of([2])
        wall = Wall((1, 0, 0), 0)
        self.assertEqual(vars(Matter("shape", mover, wall)), dict(kind="shape", mover=mover, other=wall))
        self.assertEqual(vars(Matter("self", mover)), dict(kind="self", mover=mover, other=None))
        self.assertEqual(vars(Matter("arms", mover, other)), dict(kind="arms", mover=mover, other=other))

    def test_pairs_of_a_mover_and_a_solid(self):
        for solid in (Block(ZERO, ZERO, 1), Box(ZERO, ZERO, 1), Wall((1, 0, 0), 0)):
            self.assertEqual(Matter("shape", mover_of([1, 0]), solid).pairs(), [(0, 0), (1, 0)])
            held = Matter("shape", mover_of([2, 2], [ball(ZERO, 1)]), solid)
            self.assertEqual(held.pairs(), [(0, 0), (1, 0), (2, 0)])
            self.assertEqual(Matter("shape", mover_of([]), solid).pairs(), [])

    def test_pairs_of_two_movers(self):
        matter = Matter("arms", mover_of([0], [ball(ZERO, 1)]), mover_of([1, 0, 1]))
        self.assertEqual(matter.pairs(), [(0, 0), (0, 1), (0, 2), (1, 0), (1, 1), (1, 2)])
        self.assertEqual(Matter("arms", mover_of([]), mover_of([1])).pairs(), [])
        self.assertEqual(Matter("arms", mover_of([1]), mover_of([])).pairs(), [])

    def test_pairs_that_may_touch_count_for_a_mover_and_itself_alone(self):
        mover = mover_of([0, 4, 2], beside=[(0, 1)])
        self.assertEqual(Matter("arms", mover, mover).pairs(), [(i, j) for i in range(3) for j in range(3)])

    def test_own_pairs_have_links_that_differ_by_more_than_one(self):
        self.assertEqual(Matter("self", mover_of([0, 1, 2, 3, 4])).pairs(), [
            (0, 2), (0, 3), (0, 4), (1, 3), (1, 4), (2, 4),
        ])
        self.assertEqual(Matter("self", mover_of([4, 3, 2, 1, 0])).pairs(), [
            (0, 2), (0, 3), (0, 4), (1, 3), (1, 4), (2, 4),
        ])
        self.assertEqual(Matter("self", mover_of([2, 0, 2, 1, 3])).pairs(), [(0, 1), (1, 2), (1, 4), (3, 4)])
        self.assertEqual(Matter("self", mover_of([1, 1, 2, 0])).pairs(), [(2, 3)])

    def test_own_pairs_that_may_touch_are_left_out(self):
        mover = mover_of([0, 2, 4, 3], beside=[(0, 2), (1, 2), (0, 1)])
        self.assertEqual(Matter("self", mover).pairs(), [(0, 3)])
        mover = mover_of([0, 2, 4, 3], beside=((0, 3),))
        self.assertEqual(Matter("self", mover).pairs(), [(0, 1), (0, 2), (1, 2)])

    def test_own_pairs_with_what_is_held(self):
        mover = mover_of([0, 3, 2, 4], [ball(ZERO, 1), ball(ZERO, 2)])
        self.assertEqual(Matter("self", mover).pairs(), [
            (0, 1), (0, 2), (0, 3), (0, 4), (0, 5), (2, 3), (2, 4), (2, 5),
        ])

    def test_without_own_pairs(self):
        for links in ([], [0], [0, 1], [3, 3, 3], [2, 1, 2]):
            self.assertEqual(Matter("self", mover_of(links)).pairs(), [])

    def test_the_results_are_lists_of_tuples(self):
        mover = mover_of([0, 2])
        wall = Wall((1, 0, 0), 0)
        for matter in (Matter("self", mover), Matter("arms", mover, mover), Matter("shape", mover, wall)):
            self.assertIs(type(matter.pairs()), list)
            self.assertTrue(all(type(pair) is tuple for pair in matter.pairs()))


class TestBounds(unittest.TestCase):
    def test_a_far_slide(self):
        mover = slider(-FAR, FAR, [ball((FAR, 0, 0), 1)])
        self.assertEqual(mover.lines((1, 1)), [((15000000, 0, 0), (15000000, 0, 0))])
        self.assertEqual(mover.unknowns(mover.move.halves(1)), [2 + 5000001])


if __name__ == "__main__":
    unittest.main()
