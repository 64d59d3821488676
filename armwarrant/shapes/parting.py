"""Vectors that part places from places."""
from armwarrant.shapes.vectors import dot, greatest, length_up

DIGITS = 20


def direction(vector):
    """Return the direction of a vector: about the same way, with no coordinate above 2 to the power 20."""
    size = greatest(vector)
    if size <= 1 << DIGITS:
        return vector
    digits = size.bit_length() - DIGITS
    half = 1 << (digits - 1)
    return ((vector[0] + half) >> digits, (vector[1] + half) >> digits, (vector[2] + half) >> digits)


def parts_places(way, first, second, reach):
    """Return True if the way parts two lists of places, neither of them empty, by a reach."""
    near = min([dot(way, place) for place in first])
    far = max([dot(way, place) for place in second])
    return near - far > length_up(way) * reach


def corners(low, high):
    """Return the eight corners of a box, in ascending order."""
    return [(x, y, z) for x in (low[0], high[0]) for y in (low[1], high[1]) for z in (low[2], high[2])]
