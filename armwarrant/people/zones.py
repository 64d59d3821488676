"""How far a mover comes along a direction, and zones that it does not leave."""
from armwarrant.errors import OutOfRange
from armwarrant.judge.finding import find_verdict
from armwarrant.judge.judging import judge
from armwarrant.judge.matters import Matter
from armwarrant.judge.solids import Wall
from armwarrant.shapes.vectors import divide_up, dot, greatest, length_up, scaled

STEEPEST = 1000
DEEPEST = 8
MOST = 1000000000
MICROS = 1000000


def extent(mover, direction, depth):
    """Return the greatest reach along a direction over the parts of a depth, or None without bodies."""
    _check_direction(direction)
    _check_depth(depth)
    return _extent(mover, direction, depth)


def zone(mover, directions, margin, depth):
    """Return the least bounds of sides with these directions that keep the mover a margin inside."""
    _check_margin(margin)
    for direction in directions:
        _check_direction(direction)
    _check_depth(depth)
    return [_least_bound(mover, direction, margin, depth) for direction in directions]


def is_fenced(mover, sides, margin, depth):
    """Return True if each side is shown to keep the mover a margin inside."""
    _check_margin(margin)
    _check_depth(depth)
    for direction, bound in sides:
        wall = Wall(scaled(direction, -1), length_up(direction) * margin - bound)
        if not _is_shown(Matter("shape", mover, wall), depth):
            return False
    return True


def walked(speed, micros):
    """Return how far somebody comes who walks with a speed for some microseconds, rounded up."""
    if not 0 <= speed <= MOST:
        raise OutOfRange("speed")
    if not 0 <= micros <= MOST:
        raise OutOfRange("micros")
    return divide_up(speed * micros, MICROS)


def _check_direction(direction):
    if not 1 <= greatest(direction) <= STEEPEST:
        raise OutOfRange("direction")


def _check_depth(depth):
    if not 0 <= depth <= DEEPEST:
        raise OutOfRange("depth")


def _check_margin(margin):
    if not 0 <= margin <= MOST:
        raise OutOfRange("margin")


def _extent(mover, direction, depth):
    """Return the greatest reach along a direction that can be used, or None without bodies."""
    length = length_up(direction)
    unknowns = mover.unknowns(mover.move.halves(depth))
    rooms = [length * (body.radius + found) for (_, body), found in zip(mover.bodies(), unknowns)]
    reaches = []
    for at in range(1 << depth):
        for line, room in zip(mover.lines((depth, at)), rooms):
            reaches.append(max(dot(direction, line[0]), dot(direction, line[1])) + room)
    return max(reaches, default=None)


def _least_bound(mover, direction, margin, depth):
    """Return the least bound of a side that keeps the mover a margin inside, or None without bodies."""
    found = _extent(mover, direction, depth)
    if found is None:
        return None
    return found + length_up(direction) * margin + 1


def _is_shown(matter, depth):
    """Return True if the finder, or an even tree, shows that a mover is clear of a wall."""
    if find_verdict(matter, depth).word == "clear":
        return True
    # The way from a wall is its normal, wherever the mover is, so all leaves are the same.
    tree = ("leaf", (matter.other.normal,) * len(matter.pairs()))
    for _ in range(depth + 1):
        if judge(matter, tree):
            return True
        tree = ("first", tree, tree)
    return False
