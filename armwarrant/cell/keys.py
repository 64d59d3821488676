"""Keys of matters: two are equal if and only if the judge sees no difference between the matters."""
from armwarrant.judge.solids import Block, Box


def mover_key(mover):
    """Return what the judge sees of a mover."""
    joints = tuple([_joint_key(joint) for joint in mover.arm.joints])
    bodies = tuple([(link, body.first, body.last, body.radius) for link, body in mover.bodies()])
    # Capsules of the last link and held bodies look alike there, so it counts how many are held.
    return (joints, bodies, len(mover.held), mover.move.first, mover.move.last)


def solid_key(solid):
    """Return what the judge sees of a solid."""
    if isinstance(solid, Block):
        return ("block", solid.first, solid.last, solid.radius)
    if isinstance(solid, Box):
        return ("box", solid.low, solid.high, solid.radius)
    return ("wall", solid.normal, solid.bound)


def _joint_key(joint):
    return (joint.turns, joint.axis, joint.offset, joint.least, joint.most, joint.box, joint.error)
