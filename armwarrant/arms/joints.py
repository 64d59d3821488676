"""The joints of arms."""
from armwarrant.errors import InvalidArm
from armwarrant.shapes.vectors import greatest

FARTHEST = 10000000
WIDEST_TURN = 8000000
WORST = 100000
FASTEST = 1000000000
STRONGEST = 10000000000


class Joint:
    """A joint that turns or slides, with the place of its frame in the frame before."""

    def __init__(self, turns, axis, offset, least, most, *, box=0, error=0, speed=1, accel=1, brake=1):
        if not 0 <= axis <= 2:
            raise InvalidArm("axis")
        if greatest(offset) > FARTHEST:
            raise InvalidArm("offset")
        if not _is_range(least, most, WIDEST_TURN if turns else FARTHEST):
            raise InvalidArm("range")
        if not 0 <= box <= WORST:
            raise InvalidArm("box")
        if not 0 <= error <= WORST:
            raise InvalidArm("error")
        if not 1 <= speed <= FASTEST:
            raise InvalidArm("speed")
        if not 1 <= accel <= STRONGEST:
            raise InvalidArm("accel")
        if not accel <= brake <= STRONGEST:
            raise InvalidArm("brake")
        self.turns = turns
        self.axis = axis
        self.offset = offset
        self.least = least
        self.most = most
        self.box = box
        self.error = error
        self.speed = speed
        self.accel = accel
        self.brake = brake


def _is_range(least, most, bound):
    """Return True if there is a value from least to most, and all of them are within the bound."""
    return -bound <= least <= most <= bound
