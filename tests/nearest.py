"""Exact checks that a gap is one between nearest places (point [12]), for the tests."""
from fractions import Fraction

# The places of the rows are told in this many parts of a unit, so that they are integers.
FINE = 24


def inner(first, second):
    return sum(x * y for x, y in zip(first, second))


def quotient(gap):
    """Return the vector that the gap stands for."""
    return tuple(Fraction(x, gap.scale) for x in gap.vector)


def row_of_line(line, steps):
    """Return places of a line, times FINE, evenly, its ends among them; the steps divide FINE."""
    start, end = line
    return [tuple(a * FINE + (b - a) * k * FINE // steps for a, b in zip(start, end)) for k in range(steps + 1)]


def row_of_box(low, high, steps):
    """Return places of a box, times FINE, evenly, its corners among them; the steps divide FINE."""
    axes = [[a * FINE + (b - a) * k * FINE // steps for k in range(steps + 1)] for a, b in zip(low, high)]
    return [(x, y, z) for x in axes[0] for y in axes[1] for z in axes[2]]


def is_nearest_of(gap, places, others):
    """Return True if no place of a row is nearer to any of the others than the gap is long."""
    nearest = min(
        (x - a) ** 2 + (y - b) ** 2 + (z - c) ** 2 for x, y, z in places for a, b, c in others
    )
    return nearest * gap.scale ** 2 >= inner(gap.vector, gap.vector) * FINE ** 2


def _parts_in_box(line, low, high):
    """Return the least and the greatest part of the line that is in the box, or None."""
    least, most = Fraction(0), Fraction(1)
    for a, b, x, y in zip(line[0], line[1], low, high):
        if a == b:
            if not x <= a <= y:
                return None
            continue
        first, last = sorted(((x - a) / Fraction(b - a), (y - a) / Fraction(b - a)))
        least, most = max(least, first), min(most, last)
    return (least, most) if least <= most else None


def is_between_line_and_box(gap, line, low, high):
    """Return True if the gap leads from some place of the box to some place of the line."""
    own = quotient(gap)
    moved = [tuple(x - y for x, y in zip(end, own)) for end in line]
    return _parts_in_box(moved, low, high) is not None


def is_between_lines(gap, first, second):
    """Return True if the gap leads from some place of the second line to some place of the first one."""
    own = quotient(gap)
    u = tuple(b - a for a, b in zip(first[0], first[1]))
    v = tuple(b - a for a, b in zip(second[0], second[1]))
    w = tuple(a - c - g for a, c, g in zip(first[0], second[0], own))
    uu, uv, vv, uw, vw = inner(u, u), inner(u, v), inner(v, v), inner(u, w), inner(v, w)
    n = uu * vv - uv * uv
    if n != 0:
        tries = [(Fraction(uv * vw - vv * uw, n), Fraction(uu * vw - uv * uw, n))]
    else:
        tries = [(s, _clipped(vw + s * uv, vv)) for s in (0, 1)] + [(_clipped(t * uv - uw, uu), t) for t in (0, 1)]
    for s, t in tries:
        rest = tuple(x + y * s - z * t for x, y, z in zip(w, u, v))
        if 0 <= s <= 1 and 0 <= t <= 1 and not any(rest):
            return True
    return False


def _clipped(number, divisor):
    if divisor == 0:
        return Fraction(0)
    return min(Fraction(1), max(Fraction(0), Fraction(number) / divisor))
