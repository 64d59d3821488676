"""The judge and the finder once more, step by step as points [30] to [35] tell them, for the tests."""
from armwarrant.arms.frames import spot, unknown
from armwarrant.shapes.lines import line_gap
from armwarrant.shapes.parting import direction, parts_places


def sides(mover, part, halves):
    """Return the line, the radius and the unknown of each body, in the middle of a part."""
    row = mover.move.middle(part)
    return [
        (
            tuple(spot(mover.arm, row, link, end) for end in (body.first, body.last)),
            body.radius,
            unknown(mover.arm, halves, link, body),
        )
        for link, body in mover.bodies()
    ]


def both_sides(matter, first, second, row_of):
    """Return for each pair the side of the first mover, and that of the second one or the solid."""
    own = sides(matter.mover, first, row_of(matter.mover.move, first[0]))
    if matter.kind == "shape":
        return [(own[i], matter.other) for i, _ in matter.pairs()]
    others = own
    if matter.kind == "arms":
        others = sides(matter.other, second, row_of(matter.other.move, second[0]))
    return [(own[i], others[j]) for i, j in matter.pairs()]


def halves_of(move, depth):
    return move.halves(depth)


def slacks_of(move, _):
    return move.slack()


def leaf_holds(matter, first, second, ways):
    found = both_sides(matter, first, second, halves_of)
    if len(found) != len(ways):
        return False
    for way, ((line, r, u), other) in zip(ways, found):
        if max(abs(c) for c in way) > 2 ** 20:
            return False
        if matter.kind == "shape":
            if not other.is_parted(way, line, r + u):
                return False
        elif not parts_places(way, line, other[0], r + u + other[1] + other[2]):
            return False
    return True


def told_judge(matter, tree, first=(0, 0), second=(0, 0), left=20):
    word = tree[0]
    if word == "leaf":
        return leaf_holds(matter, first, second, tree[1])
    if left == 0 or (word == "second" and matter.kind != "arms"):
        return False
    for k in (0, 1):
        if word == "first":
            fine = told_judge(matter, tree[1 + k], (first[0] + 1, 2 * first[1] + k), second, left - 1)
        else:
            fine = told_judge(matter, tree[1 + k], first, (second[0] + 1, 2 * second[1] + k), left - 1)
        if not fine:
            return False
    return True


def meets(matter, first, second):
    for (line, r, u), other in both_sides(matter, first, second, slacks_of):
        if matter.kind == "shape":
            if other.is_within(line, r - u):
                return True
        else:
            near = r + other[1] - u - other[2]
            if near >= 0 and not line_gap(line, other[0]).beyond(near):
                return True
    return False


def all_apart(matter, first, second):
    for (line, r, u), other in both_sides(matter, first, second, slacks_of):
        if matter.kind == "shape":
            if not other.is_beyond(line, r + u):
                return False
        elif not line_gap(line, other[0]).beyond(r + other[1] + u + other[2]):
            return False
    return True


def tried_ways(matter, first, second):
    if matter.kind == "shape":
        return tuple(other.way_from(side[0]) for side, other in both_sides(matter, first, second, halves_of))
    return tuple(
        direction(line_gap(side[0], other[0]).vector)
        for side, other in both_sides(matter, first, second, halves_of)
    )


def gain(mover, part):
    rows = sides(mover, part, mover.move.halves(part[0])), sides(mover, part, mover.move.slack())
    return max((wide[2] - narrow[2] for wide, narrow in zip(*rows)), default=0)


def told_verdict(matter, left, first=(0, 0), second=(0, 0)):
    """Return the word, the tree, the two parts, and how many pairs of parts were looked at."""
    ways = tried_ways(matter, first, second)
    if leaf_holds(matter, first, second, ways):
        return ("clear", ("leaf", ways), None, 1)
    if meets(matter, first, second):
        return ("meets", None, (first, second), 1)
    if left == 0 or not all_apart(matter, first, second):
        return ("open", None, (first, second), 1)
    word = "first"
    if matter.kind == "arms" and gain(matter.other, second) > gain(matter.mover, first):
        word = "second"
    looked, trees = 1, []
    for k in (0, 1):
        if word == "first":
            told = told_verdict(matter, left - 1, (first[0] + 1, 2 * first[1] + k), second)
        else:
            told = told_verdict(matter, left - 1, first, (second[0] + 1, 2 * second[1] + k))
        looked += told[3]
        if told[0] != "clear":
            return told[:3] + (looked,)
        trees.append(told[1])
    return ("clear", (word, *trees), None, looked)
