"""Where the points of a link are, and how far they can be from there.

While a place is carried from frame to frame it is a list of four integers, the last of which is the scale.
"""
from math import gcd

from armwarrant.shapes.vectors import divide_up, length_up

MILLION = 1000000


def true_place(arm, values, offsets, link, point):
    """Return the exact place of a point of a link, in lowest terms."""
    x, y, z, scale = _carried(arm, values, offsets, link, point)
    common = gcd(x, y, z, scale)
    return (x // common, y // common, z // common, scale // common)


def spot(arm, row, link, point):
    """Return the place of a point of a link for meant values and told offsets, rounded down."""
    values = [(value, 1) for value in row]
    offsets = [(*joint.offset, 1) for joint in arm.joints]
    x, y, z, scale = _carried(arm, values, offsets, link, point)
    return (x // scale, y // scale, z // scale)


def unknown(arm, halves, link, body):
    """Return how far the true ends of a body can be from their spots, if the values are within the halves."""
    found = 2
    lever = max(length_up(body.first), length_up(body.last))
    for at in reversed(range(link)):
        joint = arm.joints[at]
        stray = halves[at] + joint.error
        if joint.turns:
            found += divide_up(2 * lever * stray, MILLION)
        else:
            found += stray
            lever += max(abs(joint.least), abs(joint.most)) + joint.error
        found += 2 * joint.box
        lever += length_up(joint.offset) + 2 * joint.box
    return found


def _carried(arm, values, offsets, link, point):
    """Return the place of a point of a link in the frame before the first joint, not in lowest terms."""
    place = [*point, 1]
    for at in reversed(range(link)):
        joint = arm.joints[at]
        if joint.turns:
            place = _turned(place, joint.axis, values[at])
        else:
            place = _slid(place, joint.axis, values[at])
        place = _moved(place, offsets[at])
    return place


def _turned(place, axis, value):
    """Return the place turned about an axis by twice the angle whose tangent is the value, in millionths."""
    rise = value[0]
    run = value[1] * MILLION
    size = run * run + rise * rise
    cosine = run * run - rise * rise
    sine = 2 * rise * run
    one = (axis + 1) % 3
    two = (axis + 2) % 3
    turned = [x * size for x in place]
    turned[one] = place[one] * cosine - place[two] * sine
    turned[two] = place[one] * sine + place[two] * cosine
    return turned


def _slid(place, axis, value):
    """Return the place with the value, a fraction, added to the coordinate of the axis."""
    number, divisor = value
    slid = [x * divisor for x in place]
    slid[axis] += number * place[3]
    return slid


def _moved(place, offset):
    """Return the place with an offset, an exact place, added to it."""
    x, y, z, scale = place
    other = offset[3]
    return [
        x * other + offset[0] * scale,
        y * other + offset[1] * scale,
        z * other + offset[2] * scale,
        scale * other,
    ]
