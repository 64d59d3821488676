"""Gaps: how far, and which way, one thing is from another one."""
from armwarrant.shapes.vectors import dot, minus, scaled


class Gap:
    """The vector from a place of the second thing to a place of the first one, times the scale."""

    def __init__(self, vector, scale):
        self.vector = vector
        self.scale = scale

    def beyond(self, distance):
        """Return True if the gap is longer than the distance, which is not negative."""
        # Squares are compared, since a length need not be a whole number.
        return dot(self.vector, self.vector) > distance * distance * self.scale * self.scale

    def within(self, distance):
        """Return True if the distance is not negative and the gap is at most as long."""
        return distance >= 0 and not self.beyond(distance)

    def shorter(self, other):
        """Return True if the gap is shorter than the other one."""
        own_square = dot(self.vector, self.vector) * other.scale * other.scale
        return own_square < dot(other.vector, other.vector) * self.scale * self.scale


def place_gap(place, start, end):
    """Return the gap of a place and the line from start to end."""
    along = minus(end, start)
    away = minus(place, start)
    part = dot(away, along)
    size = dot(along, along)
    if part <= 0:
        return Gap(away, 1)
    if part >= size:
        return Gap(minus(place, end), 1)
    return Gap(minus(scaled(away, size), scaled(along, part)), size)


def turned_round(gap):
    """Return the gap as it is seen from the other one of the two things."""
    return Gap(scaled(gap.vector, -1), gap.scale)


def shortest(gaps):
    """Return the shortest gap of a list that is not empty; the earliest one of several."""
    best = gaps[0]
    for gap in gaps:
        if gap.shorter(best):
            best = gap
    return best
