"""Arms, and the bodies that are fixed to their links."""
from armwarrant.errors import InvalidArm
from armwarrant.shapes.vectors import greatest

FARTHEST = 10000000
THICKEST = 1000000
MOST_JOINTS = 6
MOST_CAPSULES = 8


class Body:
    """All places within a radius of the line between two ends."""

    def __init__(self, first, last, radius):
        if greatest(first) > FARTHEST or greatest(last) > FARTHEST:
            raise InvalidArm("body")
        if not 0 <= radius <= THICKEST:
            raise InvalidArm("radius")
        self.first = first
        self.last = last
        self.radius = radius


class Capsule:
    """A body that is fixed to a link."""

    def __init__(self, link, body):
        self.link = link
        self.body = body


class Arm:
    """A row of joints, the capsules of its links, and the pairs of these that may touch."""

    def __init__(self, joints, capsules, *, beside=()):
        if not 1 <= len(joints) <= MOST_JOINTS:
            raise InvalidArm("joints")
        if len(capsules) > MOST_CAPSULES:
            raise InvalidArm("capsules")
        if not all([0 <= capsule.link <= len(joints) for capsule in capsules]):
            raise InvalidArm("link")
        if not all([0 <= pair[0] < pair[1] < len(capsules) for pair in beside]):
            raise InvalidArm("beside")
        self.joints = tuple(joints)
        self.capsules = tuple(capsules)
        self.beside = tuple([(pair[0], pair[1]) for pair in beside])

    def fits(self, row):
        """Return True if the row has a value for each joint, within its range."""
        if len(row) != len(self.joints):
            return False
        return all([joint.least <= value <= joint.most for joint, value in zip(self.joints, row)])
