"""Sums of fractions (n, m); what is passed is not checked here."""
from math import gcd, lcm

ZERO = (0, 1)
ONE = (1, 1)


def ratio(above, below):
    """The fraction above / below, reduced; below is not 0."""
    common = gcd(above, below)
    if below < 0:
        common = -common
    return (above // common, below // common)


def ratio_sum(first, second):
    return ratio(first[0] * second[1] + second[0] * first[1], first[1] * second[1])


def ratio_product(first, second):
    return ratio(first[0] * second[0], first[1] * second[1])


def ratio_quotient(first, second):
    return ratio(first[0] * second[1], first[1] * second[0])


def is_above(first, second):
    return first[0] * second[1] > second[0] * first[1]


def over_common(fractions):
    """The fractions told as a list of whole numbers over one number above 0."""
    common = 1
    for _, below in fractions:
        common = lcm(common, below)
    return [above * (common // below) for above, below in fractions], common


def as_fractions(numbers):
    """The whole numbers as fractions."""
    return tuple((number, 1) for number in numbers)


def without_common(numbers):
    """The whole numbers without their greatest common divisor, signs kept."""
    common = 0
    for number in numbers:
        common = gcd(common, number)
    if common < 2:
        return list(numbers)
    return [number // common for number in numbers]


def forward(numbers):
    """The multiple of whole numbers without a common divisor whose first one that is not 0 is above 0."""
    reduced = without_common(numbers)
    for number in reduced:
        if number != 0:
            return reduced if number > 0 else [-part for part in reduced]
    return reduced
