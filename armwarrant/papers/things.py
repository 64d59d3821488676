"""The integers of the things that stand in papers, and the things again."""
from armwarrant.arms.arm import Arm, Body, Capsule
from armwarrant.arms.joints import Joint
from armwarrant.arms.moves import Move
from armwarrant.errors import InvalidPaper
from armwarrant.judge.matters import Matter, Mover
from armwarrant.judge.solids import Block, Box, Wall

MOST_HELD = 4
MOST_HALVINGS = 20
KINDS = ("shape", "self", "arms")
WORDS = ("leaf", "first", "second")


def body_integers(body):
    """Return the integers of a body."""
    return [*body.first, *body.last, body.radius]


def bodies_integers(bodies):
    """Return the integers of a list of bodies."""
    integers = [len(bodies)]
    for body in bodies:
        integers.extend(body_integers(body))
    return integers


def arm_integers(arm):
    """Return the integers of an arm."""
    integers = [len(arm.joints)]
    for joint in arm.joints:
        integers.extend(_joint_integers(joint))
    integers.append(len(arm.capsules))
    for capsule in arm.capsules:
        integers.extend([capsule.link] + body_integers(capsule.body))
    integers.append(len(arm.beside))
    for i, j in arm.beside:
        integers.extend([i, j])
    return integers


def solid_integers(solid):
    """Return the integers of a solid."""
    if isinstance(solid, Block):
        return [0, *solid.first, *solid.last, solid.radius]
    if isinstance(solid, Box):
        return [1, *solid.low, *solid.high, solid.radius]
    return [2, *solid.normal, solid.bound]


def matter_integers(matter):
    """Return the integers of a matter."""
    integers = [KINDS.index(matter.kind)] + _mover_integers(matter.mover)
    if matter.kind == "shape":
        return integers + solid_integers(matter.other)
    if matter.kind == "arms":
        return integers + _mover_integers(matter.other)
    return integers


def tree_integers(tree):
    """Return the integers of a certificate."""
    integers = [WORDS.index(tree[0])]
    if tree[0] == "leaf":
        integers.append(len(tree[1]))
        for way in tree[1]:
            integers.extend(way)
        return integers
    return integers + tree_integers(tree[1]) + tree_integers(tree[2])


def _joint_integers(joint):
    return [
        1 if joint.turns else 0, joint.axis, *joint.offset, joint.least, joint.most,
        joint.box, joint.error, joint.speed, joint.accel, joint.brake,
    ]


def _mover_integers(mover):
    return arm_integers(mover.arm) + [*mover.move.first, *mover.move.last] + bodies_integers(mover.held)


def take_bodies(integers):
    """Return the list of bodies that comes next."""
    return [_take_body(integers) for _ in range(integers.take_size())]


def take_arm(integers):
    """Return the arm that comes next; raise InvalidArm if there can be none."""
    joints = [_take_joint(integers) for _ in range(integers.take_size())]
    capsules = [Capsule(integers.take(), _take_body(integers)) for _ in range(integers.take_size())]
    beside = [(integers.take(), integers.take()) for _ in range(integers.take_size())]
    return Arm(joints, capsules, beside=beside)


def take_solid(integers):
    """Return the solid that comes next; raise InvalidShape if there can be none."""
    kind = integers.take_below(3)
    if kind == 2:
        return Wall(_take_vector(integers), integers.take())
    first = _take_vector(integers)
    last = _take_vector(integers)
    radius = integers.take()
    return Block(first, last, radius) if kind == 0 else Box(first, last, radius)


def take_matter(integers):
    """Return the matter that comes next; raise an error if there can be none."""
    kind = KINDS[integers.take_below(len(KINDS))]
    mover = _take_mover(integers)
    if kind == "shape":
        return Matter(kind, mover, take_solid(integers))
    if kind == "arms":
        return Matter(kind, mover, _take_mover(integers))
    return Matter(kind, mover)


def take_tree(integers):
    """Return the certificate that comes next."""
    return _take_tree(integers, MOST_HALVINGS)


def _take_tree(integers, left):
    """Return the certificate that comes next, where some halvings are left."""
    word = WORDS[integers.take_below(len(WORDS))]
    if word == "leaf":
        return (word, tuple([_take_vector(integers) for _ in range(integers.take_size())]))
    if left == 0:
        raise InvalidPaper("too many halvings stand in one another")
    low = _take_tree(integers, left - 1)
    return (word, low, _take_tree(integers, left - 1))


def _take_vector(integers):
    return tuple(integers.take_row(3))


def _take_body(integers):
    first = _take_vector(integers)
    last = _take_vector(integers)
    return Body(first, last, integers.take())


def _take_joint(integers):
    turns = integers.take_below(2) == 1
    axis = integers.take()
    offset = _take_vector(integers)
    least, most, box, error, speed, accel, brake = integers.take_row(7)
    return Joint(turns, axis, offset, least, most, box=box, error=error, speed=speed, accel=accel, brake=brake)


def _take_mover(integers):
    arm = take_arm(integers)
    first = integers.take_row(len(arm.joints))
    last = integers.take_row(len(arm.joints))
    held = take_bodies(integers)
    if len(held) > MOST_HELD:
        raise InvalidPaper("a mover holds too many bodies")
    return Mover(arm, Move(arm, first, last), held)
