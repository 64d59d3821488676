"""Movers, and matters: what could touch what."""
from armwarrant.arms.frames import spot, unknown


class Mover:
    """An arm on a move, with the bodies that it holds."""

    def __init__(self, arm, move, held=()):
        self.arm = arm
        self.move = move
        self.held = tuple(held)

    def bodies(self):
        """Return the bodies, those that are held last, each with its link."""
        fixed = [(capsule.link, capsule.body) for capsule in self.arm.capsules]
        return fixed + [(len(self.arm.joints), body) for body in self.held]

    def lines(self, part):
        """Return the lines of the spots of the bodies, in the middle of a part."""
        row = self.move.middle(part)
        return [
            (spot(self.arm, row, link, body.first), spot(self.arm, row, link, body.last))
            for link, body in self.bodies()
        ]

    def unknowns(self, halves):
        """Return the unknowns of the bodies."""
        return [unknown(self.arm, halves, link, body) for link, body in self.bodies()]


class Matter:
    """What could touch: a mover and a solid, a mover and itself, or two movers."""

    def __init__(self, kind, mover, other=None):
        self.kind = kind
        self.mover = mover
        self.other = other

    def pairs(self):
        """Return the pairs of indexes of what could touch, in ascending order."""
        many = len(self.mover.bodies())
        if self.kind == "shape":
            return [(i, 0) for i in range(many)]
        if self.kind == "self":
            return _own_pairs(self.mover)
        others = len(self.other.bodies())
        return [(i, j) for i in range(many) for j in range(others)]


def _own_pairs(mover):
    """Return the pairs of the bodies of one mover that must not touch."""
    links = [link for link, _ in mover.bodies()]
    pairs = [(i, j) for i in range(len(links)) for j in range(i + 1, len(links))]
    # Bodies of neighbouring links meet at their joint, so they are never asked about.
    return [(i, j) for i, j in pairs if abs(links[i] - links[j]) > 1 and (i, j) not in mover.arm.beside]
