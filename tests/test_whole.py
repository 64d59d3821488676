"""Point [1], the whole program: in every run of a cell with a warrant nothing touches, and all come to the end."""
import random
import unittest
from fractions import Fraction

from things import touches

from armwarrant.arms.arm import Arm, Body, Capsule
from armwarrant.arms.joints import Joint
from armwarrant.arms.moves import Move
from armwarrant.cell.cell import Cell
from armwarrant.judge.matters import Matter, Mover
from armwarrant.judge.solids import Block, Wall
from armwarrant.papers.cells import read_contents, write_contents
from armwarrant.papers.warrants import is_warrant, write_warrant

LEFT = "repeat 2 { move back move reach if full { take cup } move home release }"
RIGHT = "move back move reach if full { take cup } else { set bell on } move home release"


def tall_arm(x):
    """Return an arm that stands upright at x, turns about z, and can bend down."""
    errors = dict(error=400, box=300)
    joints = [Joint(True, 2, (x, 0, 300000), -1000000, 1000000, **errors)]
    joints += [Joint(True, 1, (0, 0, 250000), -1000000, 1000000, **errors) for _ in range(2)]
    capsules = [Capsule(0, Body((x, 0, 0), (x, 0, 250000), 60000))]
    capsules += [Capsule(link, Body((0, 0, 0), (0, 0, 240000), 30000)) for link in (1, 2, 3)]
    return Arm(joints, capsules)


def full_cell():
    cell = Cell()
    cell.edit([
        ("arm", "left", tall_arm(0)), ("arm", "right", tall_arm(800000)),
        ("point", "left", "home", [0, 0, 0]), ("point", "left", "reach", [100000, 700000, 200000]),
        ("point", "right", "home", [0, 0, 0]), ("point", "right", "reach", [-100000, -700000, -200000]),
        ("point", "left", "back", [0, -300000, 0]), ("point", "right", "back", [0, 300000, 0]),
        ("part", "cup", [Body((0, 0, 250000), (0, 0, 300000), 20000)]),
        ("solid", "floor", Wall((0, 0, 1), -100000)),
        ("solid", "beam", Block((-900000, 500000, 0), (900000, 500000, 900000), 9000)),
        ("task", "left", "home", LEFT), ("task", "right", "home", RIGHT), ("depth", 8),
    ])
    return cell


def mover_of(contents, name, place):
    arm = contents.arms[name]
    rows = [contents.points[(name, point)] for point in place[1:-1]]
    held = [] if place[-1] is None else contents.parts[place[-1]]
    return Mover(arm, Move(arm, rows[0], rows[-1]), held)


class TestWhole(unittest.TestCase):
    @classmethod
    def setUpClass(cls):
        cls.cell = full_cell()
        cls.chance = random.Random(1)

    def check_nothing_touches(self, runner):
        """Check some true places of the arms, somewhere on the places that they are on."""
        contents = self.cell.contents
        names = self.cell.arms_in_order()
        movers = [mover_of(contents, name, runner.place_of(arm)) for arm, name in enumerate(names)]
        matters = [Matter("arms", *movers)]
        for mover in movers:
            matters += [Matter("self", mover)] + [Matter("shape", mover, solid) for solid in contents.solids.values()]
        for matter in matters:
            parameters = [Fraction(self.chance.randint(0, 64), 64) for _ in range(2)]
            self.assertEqual(touches(self.chance, matter, *parameters), [])

    def step(self, runner):
        """Let some event happen that counts."""
        events = []
        for arm in range(2):
            word, _ = runner.may(arm)
            events += [(word, arm)] if word in ("under way", "begin", "read", "go on") else []
        word, arm = self.chance.choice(events)
        if word == "read":
            runner.read_input(arm, on=self.chance.random() < 0.5)
        else:
            {"under way": runner.end, "begin": runner.begin, "go on": runner.go_on}[word](arm)

    def test_the_arms_do_not_reach_out_together(self):
        # Otherwise the runs below would show nothing.
        out = ("rest", "reach", None)
        self.assertEqual(self.cell.verdict(("arms", "left", out, "right", out))[0], "meets")

    def test_runs(self):
        self.assertEqual((self.cell.problems(), self.cell.flaws()), ([], []))
        together = 0
        for _ in range(12):
            runner = self.cell.start_runner()
            while not runner.is_over:
                self.step(runner)
                self.check_nothing_touches(runner)
                together += runner.is_under_way(0) and runner.is_under_way(1)
            self.assertEqual([runner.place_of(arm) for arm in range(2)], [("rest", "home", None)] * 2)
        self.assertGreater(together, 0)

    def test_the_warrant(self):
        text = write_warrant(self.cell)
        self.assertTrue(is_warrant(text))
        again = read_contents(write_contents(self.cell.contents))
        self.assertEqual(write_contents(again), write_contents(self.cell.contents))
        # With the arms nearer to each other the same trees show nothing.
        head, numbers = text.split("\n")[:2]
        places = [at for at, word in enumerate(numbers.split(" ")) if word == "800000"]
        for word in ("600000", "1000"):
            changed = numbers.split(" ")
            for at in places:
                changed[at] = word
            self.assertFalse(is_warrant(f"{head}\n{' '.join(changed)}\n"))


if __name__ == "__main__":
    unittest.main()
