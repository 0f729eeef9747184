"""Sums of tuples of fractions, triples above all; what is passed is not checked here."""
from sevenpins.ratios import ZERO, over_common, ratio, ratio_product, ratio_sum

NOUGHT = ((0, 1), (0, 1), (0, 1))
AXES = (((1, 1), (0, 1), (0, 1)), ((0, 1), (1, 1), (0, 1)), ((0, 1), (0, 1), (1, 1)))


def is_nought(numbers):
    return all(number[0] == 0 for number in numbers)


def vector_sum(first, second):
    return tuple(ratio_sum(a, b) for a, b in zip(first, second))


def vector_times(numbers, fraction):
    return tuple(ratio_product(number, fraction) for number in numbers)


def vector_total(vectors, width):
    """The sum of any number of tuples of so many fractions."""
    total = (ZERO,) * width
    for numbers in vectors:
        total = vector_sum(total, numbers)
    return total


def vector_less(first, second):
    """The first one less the second one."""
    return vector_sum(first, vector_times(second, (-1, 1)))


def vector_dot(first, second):
    own, own_below = over_common(first)
    its, its_below = over_common(second)
    return ratio(sum(a * b for a, b in zip(own, its)), own_below * its_below)


def whole_cross(first, second):
    """The cross product of two lists of three whole numbers."""
    a1, a2, a3 = first
    b1, b2, b3 = second
    return [a2 * b3 - a3 * b2, a3 * b1 - a1 * b3, a1 * b2 - a2 * b1]


def vector_cross(first, second):
    own, own_below = over_common(first)
    its, its_below = over_common(second)
    below = own_below * its_below
    return tuple(ratio(number, below) for number in whole_cross(own, its))
