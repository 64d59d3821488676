"""How fast the parameter of a move may go, and how long what is left of the move lasts.

A rate is a pair of the rate of a joint and of how far the joint goes; it stands for their quotient.
"""
from armwarrant.shapes.vectors import divide_up, root_up

# 2 to the power 40.
PARTS = 1099511627776
MICROS = 1000000


def least_micros(arm, move, *, done=0):
    """Return the least time, in microseconds, for what is left of a move after some parts."""
    left = PARTS - done
    rates = rates_of(arm, move)
    if rates is None or left <= 0:
        return 0
    speed, accel, _ = rates
    ramp, rest = ramp_and_rest(speed, accel, left)
    if ramp < rest:
        return divide_up(MICROS * (ramp + rest), speed[0] * speed[1] * accel[0] * PARTS)
    return root_up(divide_up(4 * MICROS * MICROS * left * accel[1], PARTS * accel[0]))


def rates_of(arm, move):
    """Return the greatest speed, acceleration and braking of the parameter, or None if no joint goes."""
    ways = [(joint, abs(last - first)) for joint, first, last in zip(arm.joints, move.first, move.last)]
    ways = [(joint, far) for joint, far in ways if far > 0]
    if len(ways) == 0:
        return None
    return (
        _least([(joint.speed, far) for joint, far in ways]),
        _least([(joint.accel, far) for joint, far in ways]),
        _least([(joint.brake, far) for joint, far in ways]),
    )


def ramp_and_rest(speed, accel, left):
    """Return two integers; the share of the first one in both is the ramp.

    The first one is less if the greatest speed is reached. Otherwise they are equal.
    """
    ramp = speed[0] * speed[0] * accel[1] * PARTS
    rest = accel[0] * left * speed[1] * speed[1]
    if ramp < rest:
        return (ramp, rest)
    return (1, 1)


def _least(rates):
    """Return the least rate, the first one of several."""
    best = rates[0]
    for rate in rates:
        if rate[0] * best[1] < best[0] * rate[1]:
            best = rate
    return best
