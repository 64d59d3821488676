"""Arms, movers and matters that are easy to calculate with, for the tests.

A slide along x has no levers: a body behind it is where its value tells, and its unknown is 2, plus the half,
the error, and twice the box.
"""
from fractions import Fraction

from armwarrant.arms.arm import Arm, Body, Capsule
from armwarrant.arms.frames import true_place
from armwarrant.arms.joints import Joint
from armwarrant.arms.moves import Move
from armwarrant.judge.matters import Matter, Mover
from armwarrant.judge.solids import Block, Box, Wall
from armwarrant.shapes.boxes import box_gap
from armwarrant.shapes.lines import line_gap

ZERO = (0, 0, 0)
FAR = 10000000
# Unknown for the slack, on a slide without errors that goes.
LEAST_UNKNOWN = 3


def ball(place, radius):
    return Body(place, place, radius)


def slide(axis=0, **others):
    return Joint(False, axis, ZERO, -FAR, FAR, **others)


def slider(first, last, bodies, held=(), **others):
    """Return a mover whose bodies all slide along x, from a first value to a last one."""
    arm = Arm([slide(**others)], [Capsule(1, body) for body in bodies])
    return Mover(arm, Move(arm, [first], [last]), held)


def folder(first, last, radii, links, **others):
    """Return a mover with two slides, along x and then y, and balls at the origins of links."""
    arm = Arm([slide(0), slide(1)], [Capsule(link, ball(ZERO, r)) for link, r in zip(links, radii)], **others)
    return Mover(arm, Move(arm, first, last))


def random_joint(chance, size):
    offset = tuple(chance.randint(-size, size) for _ in range(3))
    errors = dict(box=chance.choice((0, 0, 1, size // 100)), error=chance.choice((0, 0, 1, 300)))
    if chance.random() < 0.6:
        return Joint(True, chance.randrange(3), offset, -1000000, 1000000, **errors)
    return Joint(False, chance.randrange(3), offset, -size, size, **errors)


def random_body(chance, size):
    ends = [tuple(chance.randint(-size, size) for _ in range(3)) for _ in range(2)]
    return Body(*ends, min(1000000, chance.randint(0, size // chance.choice((1, 8, 8)))))


def random_mover(chance, size, joints=3):
    """Return a mover with up to so many joints, whose bodies and ways are about of a size."""
    rows = [random_joint(chance, size) for _ in range(chance.randint(1, joints))]
    capsules = [
        Capsule(chance.choice((0, len(rows), chance.randint(0, len(rows)))), random_body(chance, size))
        for _ in range(chance.choice((0, 1, 1, 2, 2, 3)))
    ]
    arm = Arm(rows, capsules)
    first = [chance.randint(joint.least, joint.most) for joint in rows]
    last = [
        value if chance.random() < 0.2 else min(joint.most, max(joint.least, value + far(chance, joint, size)))
        for joint, value in zip(rows, first)
    ]
    held = [random_body(chance, size) for _ in range(chance.choice((0, 0, 1, 2)))]
    return Mover(arm, Move(arm, first, last), held)


def far(chance, joint, size):
    return chance.randint(-600000, 600000) if joint.turns else chance.randint(-2 * size, 2 * size)


def random_solid(chance, size):
    middle = tuple(chance.randint(-3 * size, 3 * size) for _ in range(3))
    places = [tuple(c + chance.randint(-size, size) for c in middle) for _ in range(2)]
    kind = chance.randrange(3)
    if kind == 0:
        return Block(*places, chance.randint(0, size // 4))
    if kind == 1:
        low, high = (tuple(pick(*pair) for pair in zip(*places)) for pick in (min, max))
        return Box(low, high, chance.randint(0, size // 4))
    normal = (0, 0, 0)
    while normal == (0, 0, 0):
        normal = tuple(chance.randint(-6, 6) for _ in range(3))
    return Wall(normal, chance.randint(-20 * size, 0))


def random_matter(chance, size):
    kind = chance.choice(("shape", "self", "arms"))
    mover = random_mover(chance, size, 4 if kind == "self" else 3)
    if kind == "shape":
        return Matter(kind, mover, random_solid(chance, size))
    if kind == "self":
        return Matter(kind, mover)
    return Matter(kind, mover, moved_away(chance, random_mover(chance, size), size))


def moved_away(chance, mover, size):
    """Return the mover with its base somewhere else."""
    away = tuple(chance.choice((-1, 1)) * chance.randint(0, 3 * size) for _ in range(3))
    old = mover.arm.joints[0]
    base = Joint(
        old.turns, old.axis, tuple(a + b for a, b in zip(old.offset, away)), old.least, old.most,
        box=old.box, error=old.error,
    )
    capsules = [
        Capsule(capsule.link, moved_body(capsule.body, away) if capsule.link == 0 else capsule.body)
        for capsule in mover.arm.capsules
    ]
    arm = Arm((base,) + mover.arm.joints[1:], capsules)
    return Mover(arm, Move(arm, mover.move.first, mover.move.last), mover.held)


def moved_body(body, away):
    first, last = (tuple(a + b for a, b in zip(end, away)) for end in (body.first, body.last))
    return Body(first, last, body.radius)


class TrueMover:
    """Where the bodies of a mover truly are, somewhere within its errors, at a parameter."""

    def __init__(self, chance, mover, parameter):
        joints = mover.arm.joints
        values, offsets = [], []
        for joint, first, last in zip(joints, mover.move.first, mover.move.last):
            stray = Fraction(chance.choice((-4, 4, chance.randint(-4, 4))), 4) * joint.error
            value = first + (last - first) * parameter + stray
            values.append((value.numerator, value.denominator))
            offsets.append(tuple(c + chance.choice((-1, 0, 1)) * joint.box for c in joint.offset) + (1,))
        self.bodies = [
            (true_place(mover.arm, values, offsets, link, body.first),
             true_place(mover.arm, values, offsets, link, body.last), body.radius)
            for link, body in mover.bodies()
        ]


def on_scale(places):
    """Return a scale, and the exact places times this scale."""
    scale = 1
    for place in places:
        scale *= place[3]
    return scale, [tuple(c * (scale // place[3]) for c in place[:3]) for place in places]


def have_common_place(body, other):
    """Return True if two true bodies have a common place."""
    scale, ends = on_scale(body[:2] + other[:2])
    return line_gap(tuple(ends[:2]), tuple(ends[2:])).within((body[2] + other[2]) * scale)


def has_place_in(body, solid):
    """Return True if a true body and a solid have a common place."""
    scale, ends = on_scale(body[:2])
    if isinstance(solid, Wall):
        height = min(sum(a * b for a, b in zip(solid.normal, end)) for end in ends) - solid.bound * scale
        return height <= 0 or height ** 2 <= sum(a * a for a in solid.normal) * (body[2] * scale) ** 2
    places = (solid.first, solid.last) if isinstance(solid, Block) else (solid.low, solid.high)
    low, high = (tuple(c * scale for c in place) for place in places)
    if isinstance(solid, Block):
        gap = line_gap(tuple(ends), (low, high))
    else:
        gap = box_gap(tuple(ends), low, high)
    return gap.within((body[2] + solid.radius) * scale)


def touches(chance, matter, parameter, other_parameter):
    """Return the pairs of a matter that truly touch, at parameters, somewhere within the errors."""
    bodies = TrueMover(chance, matter.mover, parameter).bodies
    if matter.kind == "shape":
        return [(i, j) for i, j in matter.pairs() if has_place_in(bodies[i], matter.other)]
    others = bodies
    if matter.kind == "arms":
        others = TrueMover(chance, matter.other, other_parameter).bodies
    return [(i, j) for i, j in matter.pairs() if have_common_place(bodies[i], others[j])]
