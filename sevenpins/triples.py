"""Fractions, triples and directions ([6], [7])."""
from math import gcd

from sevenpins.errors import InvalidDirection, InvalidFraction, InvalidNumber, InvalidTriple
from sevenpins.ratios import as_fractions, forward, over_common, ratio
from sevenpins.vectors import is_nought, vector_cross, vector_dot, vector_sum, vector_times


def is_whole(value):
    # True and False are integers for Python, but no whole numbers here.
    return isinstance(value, int) and not isinstance(value, bool)


def is_fraction(value):
    """Whether a value, whatever it is, is a fraction."""
    if not isinstance(value, tuple) or len(value) != 2:
        return False
    above, below = value
    return is_whole(above) and is_whole(below) and below > 0 and gcd(above, below) == 1


def is_triple(value):
    """Whether a value, whatever it is, is a triple."""
    return isinstance(value, tuple) and len(value) == 3 and all(is_fraction(part) for part in value)


def is_direction(value):
    """Whether a value, whatever it is, is a direction."""
    return is_triple(value) and not is_nought(value)


def check_whole(number):
    if not is_whole(number):
        raise InvalidNumber(number)


def check_fraction(fraction):
    if not is_fraction(fraction):
        raise InvalidFraction(fraction)


def check_triple(triple):
    if not is_triple(triple):
        raise InvalidTriple(triple)


def check_direction(direction):
    if not is_direction(direction):
        raise InvalidDirection(direction)


def fraction_of(number, other):
    """The first number over the second one."""
    check_whole(number)
    check_whole(other)
    if other == 0:
        raise InvalidNumber(other)
    return ratio(number, other)


def triple_sum(triple, other):
    check_triple(triple)
    check_triple(other)
    return vector_sum(triple, other)


def triple_times(triple, fraction):
    check_triple(triple)
    check_fraction(fraction)
    return vector_times(triple, fraction)


def dot(triple, other):
    check_triple(triple)
    check_triple(other)
    return vector_dot(triple, other)


def cross(triple, other):
    check_triple(triple)
    check_triple(other)
    return vector_cross(triple, other)


def plain_direction(direction):
    """The one multiple of a direction that is plain."""
    check_direction(direction)
    numbers, _ = over_common(direction)
    return as_fractions(forward(numbers))
