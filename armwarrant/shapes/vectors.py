"""Exact calculations with integers, and with vectors: tuples of three integers."""
from math import isqrt


def root_up(number):
    """Return the square root of an integer that is not negative, rounded up."""
    if number == 0:
        return 0
    return isqrt(number - 1) + 1


def divide_up(number, divisor):
    """Return the quotient by a positive divisor, rounded up."""
    return -(-number // divisor)


def dot(first, second):
    """Return the inner product of two vectors."""
    return first[0] * second[0] + first[1] * second[1] + first[2] * second[2]


def plus(first, second):
    """Return the sum of two vectors."""
    return (first[0] + second[0], first[1] + second[1], first[2] + second[2])


def minus(first, second):
    """Return the first vector minus the second one."""
    return (first[0] - second[0], first[1] - second[1], first[2] - second[2])


def scaled(vector, factor):
    """Return the vector times an integer."""
    return (vector[0] * factor, vector[1] * factor, vector[2] * factor)


def length_up(vector):
    """Return the length of a vector, rounded up."""
    return root_up(dot(vector, vector))


def greatest(vector):
    """Return the greatest coordinate of a vector, without its sign."""
    return max(abs(vector[0]), abs(vector[1]), abs(vector[2]))
