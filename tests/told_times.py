"""Times and moments of moves once more, with fractions, as points [39] to [44] tell them, for the tests."""
from fractions import Fraction
from math import ceil, floor

from things import FAR, ZERO

from armwarrant.arms.arm import Arm
from armwarrant.arms.joints import Joint
from armwarrant.arms.moves import Move

PARTS = 2 ** 40
MILLION = 1000000
HALF = Fraction(1, 2)


def joint(speed=1, accel=1, brake=None):
    return Joint(False, 0, ZERO, -FAR, FAR, speed=speed, accel=accel, brake=brake or accel)


def motion(*ways):
    """Return an arm and its move, for a way and the rates of each joint."""
    arm = Arm([joint(*rates) for _, *rates in ways], [])
    return arm, Move(arm, [0] * len(ways), [far for far, *_ in ways])


def told_rates(arm, move):
    """Return V, A and B as fractions, or None."""
    ways = [(j, abs(b - a)) for j, a, b in zip(arm.joints, move.first, move.last) if a != b]
    if not ways:
        return None
    return tuple(min(Fraction(getattr(j, name), far) for j, far in ways) for name in ("speed", "accel", "brake"))


def told_micros(arm, move, done=0):
    rates = told_rates(arm, move)
    d = Fraction(PARTS - done, PARTS)
    if rates is None or d <= 0:
        return 0
    v, a, _ = rates
    if v * v < a * d:
        return ceil(MILLION * (d / v + v / a))
    # The least T is near the root, which is searched for by halving.
    low, high = 0, 1
    while high * high * a < 4 * MILLION ** 2 * d:
        high *= 2
    while high - low > 1:
        middle = (low + high) // 2
        if middle * middle * a < 4 * MILLION ** 2 * d:
            low = middle
        else:
            high = middle
    return high


def random_motion(chance):
    """Return an arm and a move whose rates are of all sizes."""
    ways = []
    for _ in range(chance.randint(1, 6)):
        accel = chance.randint(1, 10 ** chance.randint(0, 10))
        ways.append((
            chance.choice((0, chance.randint(-9, 9), chance.randint(-FAR, FAR))),
            chance.randint(1, 10 ** chance.randint(0, 9)), accel,
            chance.choice((accel, 10 ** 10, chance.randint(accel, 10 ** 10))),
        ))
    return motion(*ways)


def told_ramp(arm, move, done):
    v, a, _ = told_rates(arm, move)
    d = Fraction(PARTS - done, PARTS)
    return v * v / (a * d + v * v) if v * v < a * d else HALF


def told_state(arm, move, micros, done=0):
    """Return the parameter and its speed, as point [41] tells them."""
    lasts = told_micros(arm, move, done)
    start, d = Fraction(done, PARTS), Fraction(PARTS - done, PARTS)
    if micros >= lasts:
        return start + d, Fraction(0)
    u, r = Fraction(micros, lasts), told_ramp(arm, move, done)
    if u < r:
        share, speed = u * u / (2 * r * (1 - r)), u / (r * (1 - r))
    elif u <= 1 - r:
        share, speed = (u - r / 2) / (1 - r), 1 / (1 - r)
    else:
        share, speed = 1 - (1 - u) * (1 - u) / (2 * r * (1 - r)), (1 - u) / (r * (1 - r))
    return start + d * share, MILLION * d / lasts * speed


def told_values(move, parameter):
    return [floor(a + (b - a) * parameter) for a, b in zip(move.first, move.last)]


def told_moment(arm, move, micros, done=0):
    parameter, _ = told_state(arm, move, micros, done)
    return floor(parameter * PARTS), told_values(move, parameter)


def told_stop(arm, move, micros, done=0):
    parameter, speed = told_state(arm, move, micros, done)
    lasts = 0
    if speed:
        brake = told_rates(arm, move)[2]
        lasts = ceil(MILLION * speed / brake)
        parameter += speed * speed / (2 * brake)
    return lasts, ceil(parameter * PARTS), told_values(move, parameter)
