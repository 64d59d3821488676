"""Moves of an arm, and the parts into which they are halved."""
from armwarrant.errors import InvalidMove
from armwarrant.shapes.vectors import divide_up


class Move:
    """A move of an arm from a first row of values to a last one."""

    def __init__(self, arm, first, last):
        if not arm.fits(first):
            raise InvalidMove("first")
        if not arm.fits(last):
            raise InvalidMove("last")
        self.first = tuple(first)
        self.last = tuple(last)

    def middle(self, part):
        """Return the values in the middle of a part, rounded down."""
        depth, at = part
        number = 2 * at + 1
        divisor = 2 << depth
        return [first + (last - first) * number // divisor for first, last in zip(self.first, self.last)]

    def halves(self, depth):
        """Return how far each joint can be from the middle within a part of this depth."""
        return [_half(first, last, 2 << depth) for first, last in zip(self.first, self.last)]

    def slack(self):
        """Return how far each joint can be from the middle at the parameter in the very middle of a part."""
        return [0 if first == last else 1 for first, last in zip(self.first, self.last)]


def lower(part):
    """Return the first half of a part."""
    return (part[0] + 1, 2 * part[1])


def upper(part):
    """Return the second half of a part."""
    return (part[0] + 1, 2 * part[1] + 1)


def _half(first, last, divisor):
    """Return the half of a joint, where the divisor is the number of halves of parts in the move."""
    if first == last:
        return 0
    # One more than the quotient, since the value in the middle is rounded down.
    return divide_up(abs(last - first), divisor) + 1
