"""How much room there is in a matter, and how deep one must look for it."""
from armwarrant.arms.arm import Arm, Body, Capsule
from armwarrant.errors import OutOfRange
from armwarrant.judge.finding import find_verdict
from armwarrant.judge.matters import Matter, Mover

TOO_WIDE = 65536
DEEPEST_NEEDED = 40


def wider(matter, width):
    """Return the matter with the width added to the radius of each body of its movers."""
    other = _wider_mover(matter.other, width) if matter.kind == "arms" else matter.other
    return Matter(matter.kind, _wider_mover(matter.mover, width), other)


def margin(matter, depth):
    """Return the greatest width by which the matter is told clear, or None if it is not clear as it is."""
    if not _is_clear(matter, 0, depth):
        return None
    # What is clear wider is clear less wide, so the widths that are clear end at one place.
    clear = 0
    unclear = TOO_WIDE
    while unclear - clear > 1:
        width = (clear + unclear) // 2
        if _is_clear(matter, width, depth):
            clear = width
        else:
            unclear = width
    return clear


def depth_for(mover, gap):
    """Return the least depth at which no unknown is more than the gap above that for the slacks, or None."""
    if gap < 0:
        raise OutOfRange("gap")
    most = [narrow + gap for narrow in mover.unknowns(mover.move.slack())]
    for depth in range(DEEPEST_NEEDED + 1):
        if _are_at_most(mover.unknowns(mover.move.halves(depth)), most):
            return depth
    return None


def _is_clear(matter, width, depth):
    return find_verdict(wider(matter, width), depth).word == "clear"


def _wider_mover(mover, width):
    arm = mover.arm
    capsules = [Capsule(capsule.link, _wider_body(capsule.body, width)) for capsule in arm.capsules]
    held = [_wider_body(body, width) for body in mover.held]
    return Mover(Arm(arm.joints, capsules, beside=arm.beside), mover.move, held)


def _wider_body(body, width):
    found = Body(body.first, body.last, 0)
    # Set afterwards, since the sum may be more than a body can be made with.
    found.radius = body.radius + width
    return found


def _are_at_most(numbers, bounds):
    return all([number <= bound for number, bound in zip(numbers, bounds)])
