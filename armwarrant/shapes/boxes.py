"""The gap of a line and a box."""
from armwarrant.shapes.gaps import Gap, shortest
from armwarrant.shapes.vectors import minus, plus, scaled


def box_gap(line, low, high):
    """Return the gap of a line, a pair of its ends, and the box between two corners."""
    row = _row_of_parts(line, low, high)
    parts = row + _flat_parts(row, line, low, high)
    return shortest([_gap_at(part, line, low, high) for part in parts])


def _row_of_parts(line, low, high):
    """Return the parts 0 and 1 of the line, and in order those at which it crosses a side of the box."""
    parts = []
    for start, end, least, most in zip(line[0], line[1], low, high):
        for side in (least, most):
            part = _crossing(start, end, side)
            if part is not None:
                parts.append(part)
    return [(0, 1)] + _in_order(parts) + [(1, 1)]


def _crossing(start, end, side):
    """Return the part strictly between 0 and 1 at which a coordinate is that of the side, or None."""
    number = side - start
    divisor = end - start
    if divisor < 0:
        number = -number
        divisor = -divisor
    if 0 < number < divisor:
        return (number, divisor)
    return None


def _in_order(parts):
    """Return the parts in ascending order; equal ones stay in the order in which they are."""
    whole = 1
    for _, divisor in parts:
        whole = whole * divisor
    return sorted(parts, key=lambda part: part[0] * (whole // part[1]))


def _flat_parts(row, line, low, high):
    """Return the flat parts that exist between the neighbours of a row of parts, in order."""
    flats = [_flat_part(part, following, line, low, high) for part, following in zip(row, row[1:])]
    return [flat for flat in flats if flat is not None]


def _flat_part(part, following, line, low, high):
    """Return the flat part between two neighbours, where the distance is least if no side is crossed, or None."""
    middle = (part[0] * following[1] + following[0] * part[1], 2 * part[1] * following[1])
    beyond = _gap_at(middle, line, low, high).vector
    number = 0
    divisor = 0
    for k in range(3):
        if beyond[k] != 0:
            side = low[k] if beyond[k] < 0 else high[k]
            step = line[1][k] - line[0][k]
            number += step * (side - line[0][k])
            divisor += step * step
    flat = (number, divisor)
    if divisor > 0 and _is_before(part, flat) and _is_before(flat, following):
        return flat
    return None


def _is_before(part, other):
    """Return True if a part is less than another one."""
    return part[0] * other[1] < other[0] * part[1]


def _gap_at(part, line, low, high):
    """Return the gap of the box and the place of the line at a part."""
    number, scale = part
    start, end = line
    place = plus(scaled(start, scale), scaled(minus(end, start), number))
    vector = [_outside_by(x, least * scale, most * scale) for x, least, most in zip(place, low, high)]
    return Gap(tuple(vector), scale)


def _outside_by(x, low, high):
    """Return how far a coordinate is outside of the range from low to high, with its sign."""
    if x < low:
        return x - low
    if x > high:
        return x - high
    return 0
