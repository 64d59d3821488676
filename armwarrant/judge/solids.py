"""Solids: the obstacles that stand in a cell."""
from armwarrant.errors import InvalidShape
from armwarrant.shapes.boxes import box_gap
from armwarrant.shapes.lines import line_gap
from armwarrant.shapes.parting import corners, direction, parts_places
from armwarrant.shapes.vectors import dot, greatest, length_up

FARTHEST = 10000000
THICKEST = 1000000
STEEPEST = 1000
HIGHEST = 100000000000


class Block:
    """All places within a radius of the line between two ends."""

    def __init__(self, first, last, radius):
        if greatest(first) > FARTHEST or greatest(last) > FARTHEST:
            raise InvalidShape("ends")
        if not 0 <= radius <= THICKEST:
            raise InvalidShape("radius")
        self.first = first
        self.last = last
        self.radius = radius

    def is_beyond(self, line, radius):
        """Return True if the line with the radius does not touch the block."""
        return radius >= 0 and self._gap(line).beyond(radius + self.radius)

    def is_within(self, line, radius):
        """Return True if the line with the radius has a place in common with the block."""
        return self._gap(line).within(radius + self.radius)

    def way_from(self, line):
        """Return the way from the block to the line."""
        return direction(self._gap(line).vector)

    def is_parted(self, way, line, radius):
        """Return True if the way parts the line with the radius from the block."""
        return parts_places(way, line, (self.first, self.last), radius + self.radius)

    def _gap(self, line):
        return line_gap(line, (self.first, self.last))


class Box:
    """All places within a radius of the box between two corners."""

    def __init__(self, low, high, radius):
        if not _are_corners(low, high):
            raise InvalidShape("corners")
        if not 0 <= radius <= THICKEST:
            raise InvalidShape("radius")
        self.low = low
        self.high = high
        self.radius = radius

    def is_beyond(self, line, radius):
        """Return True if the line with the radius does not touch the box."""
        return radius >= 0 and self._gap(line).beyond(radius + self.radius)

    def is_within(self, line, radius):
        """Return True if the line with the radius has a place in common with the box."""
        return self._gap(line).within(radius + self.radius)

    def way_from(self, line):
        """Return the way from the box to the line."""
        return direction(self._gap(line).vector)

    def is_parted(self, way, line, radius):
        """Return True if the way parts the line with the radius from the box."""
        return parts_places(way, line, corners(self.low, self.high), radius + self.radius)

    def _gap(self, line):
        return box_gap(line, self.low, self.high)


class Wall:
    """All places whose inner product with a normal is at most a bound."""

    def __init__(self, normal, bound):
        if not 1 <= greatest(normal) <= STEEPEST:
            raise InvalidShape("normal")
        if not -HIGHEST <= bound <= HIGHEST:
            raise InvalidShape("bound")
        self.normal = normal
        self.bound = bound

    def is_beyond(self, line, radius):
        """Return True if the line with the radius does not touch the wall."""
        return radius >= 0 and self._height(line) > length_up(self.normal) * radius

    def is_within(self, line, radius):
        """Return True if an end of the line is in the wall."""
        return radius >= 0 and self._height(line) <= 0

    def way_from(self, line):
        """Return the way from the wall to the line, which is the same one for all lines."""
        return self.normal

    def is_parted(self, way, line, radius):
        """Return True if the way parts the line with the radius from the wall."""
        return way == self.normal and self.is_beyond(line, radius)

    def _height(self, line):
        """Return how much the least inner product of the ends of the line is above the bound."""
        return min(dot(self.normal, line[0]), dot(self.normal, line[1])) - self.bound


def _are_corners(low, high):
    """Return True if a box can have these corners."""
    if greatest(low) > FARTHEST or greatest(high) > FARTHEST:
        return False
    return all([least <= most for least, most in zip(low, high)])
