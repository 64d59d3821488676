"""Where an arm is after some time on a move, and where it rests if it stops from there."""
from armwarrant.arms.moves import Move
from armwarrant.errors import OutOfRange
from armwarrant.shapes.vectors import divide_up, root_up
from armwarrant.times.rates import MICROS, PARTS, least_micros, ramp_and_rest, rates_of

# 2 to the power 53.
LATEST = 9007199254740992


def moment(arm, move, micros, *, done=0):
    """Return the parts that are done after some microseconds, and the values of the joints."""
    _check(micros, done)
    number, divisor = Motion(arm, move, done).parameter_at(micros)
    return (number * PARTS // divisor, _values(move, number, divisor))


def stop_from(arm, move, micros, *, done=0):
    """Return the microseconds of a stop after some microseconds, the parts at its end, and the values there."""
    _check(micros, done)
    motion = Motion(arm, move, done)
    number, divisor = motion.parameter_at(micros)
    speed, per = motion.speed_at(micros)
    if speed == 0:
        return (0, divide_up(number * PARTS, divisor), _values(move, number, divisor))
    brake, far = motion.brake
    # The way of the stop is v * v / (2 * B).
    number = number * 2 * brake * per * per + divisor * speed * speed * far
    divisor = divisor * 2 * brake * per * per
    lasts = divide_up(MICROS * speed * far, per * brake)
    return (lasts, divide_up(number * PARTS, divisor), _values(move, number, divisor))


def longest_stop(arm, move):
    """Return how many microseconds a stop from any moment of the motion lasts at most."""
    rates = rates_of(arm, move)
    if rates is None:
        return 0
    speed, accel, brake = rates
    if speed[0] * speed[0] * accel[1] < accel[0] * speed[1] * speed[1]:
        return divide_up(MICROS * speed[0] * brake[1], speed[1] * brake[0])
    number = MICROS * MICROS * accel[0] * brake[1] * brake[1]
    return root_up(divide_up(number, accel[1] * brake[0] * brake[0]))


def each_alone(arm, move):
    """Return the least time in which each joint can go its way while all others stay."""
    return max([least_micros(arm, _move_of_one(arm, move, at)) for at in range(len(arm.joints))])


class Motion:
    """The motion of an arm on what is left of a move after some parts."""

    def __init__(self, arm, move, done):
        self.done = done
        self.left = PARTS - done
        self.lasts = least_micros(arm, move, done=done)
        self.ramp = 1
        self.rest = 1
        self.brake = None
        if self.lasts > 0:
            speed, accel, self.brake = rates_of(arm, move)
            self.ramp, self.rest = ramp_and_rest(speed, accel, self.left)

    def parameter_at(self, micros):
        """Return the parameter after some microseconds, a fraction."""
        number, divisor = self.share_at(micros)
        return (self.done * divisor + self.left * number, PARTS * divisor)

    def share_at(self, micros):
        """Return the share that is done of what is left after some microseconds, a fraction."""
        if micros >= self.lasts:
            return (1, 1)
        both = self.ramp + self.rest
        divisor = 2 * self.lasts * self.lasts * self.ramp * self.rest
        if micros * both < self.ramp * self.lasts:
            return (micros * micros * both * both, divisor)
        if micros * both <= self.rest * self.lasts:
            return (2 * micros * both - self.ramp * self.lasts, 2 * self.rest * self.lasts)
        ahead = self.lasts - micros
        return (divisor - ahead * ahead * both * both, divisor)

    def speed_at(self, micros):
        """Return the speed of the parameter, per second, after some microseconds, a fraction."""
        if micros >= self.lasts:
            return (0, 1)
        both = self.ramp + self.rest
        number = MICROS * self.left * both
        divisor = PARTS * self.lasts * self.rest
        # The nearer end of the motion tells how much of the greatest speed there is on its ramp.
        nearer = min(micros, self.lasts - micros)
        if nearer * both >= self.ramp * self.lasts:
            return (number, divisor)
        return (number * nearer * both, divisor * self.lasts * self.ramp)


def _check(micros, done):
    """Raise OutOfRange for what cannot be asked."""
    if not 0 <= done <= PARTS:
        raise OutOfRange("done")
    if not 0 <= micros <= LATEST:
        raise OutOfRange("micros")


def _values(move, number, divisor):
    """Return the values of the joints at a parameter, rounded down."""
    return [first + (last - first) * number // divisor for first, last in zip(move.first, move.last)]


def _move_of_one(arm, move, at):
    """Return the move on which only the joint at this index goes."""
    last = list(move.first)
    last[at] = move.last[at]
    return Move(arm, move.first, last)
