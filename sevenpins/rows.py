"""Rows of whole numbers, reduced to stairs; what is passed is not checked here.

A row stands for all its multiples, so rows are kept without a common divisor.
"""
from math import gcd, lcm

from sevenpins.ratios import ZERO, forward, over_common, ratio, without_common


def whole_row(fractions):
    """The whole numbers without a common divisor of which a row of fractions is a multiple above 0."""
    numbers, _ = over_common(fractions)
    return without_common(numbers)


def inner(first, second):
    return sum(a * b for a, b in zip(first, second))


def first_place(row):
    """The place of the first number that is not 0, the length of a row of noughts."""
    for place, number in enumerate(row):
        if number != 0:
            return place
    return len(row)


def cleared(row, lead, place):
    """The row with 0 at the place, by a multiple of the lead row taken from a multiple above 0 of the row.

    The lead row's number at the place is above 0.
    """
    if row[place] == 0:
        return row
    common = gcd(row[place], lead[place])
    own, its = lead[place] // common, row[place] // common
    return without_common([own * number - its * other for number, other in zip(row, lead)])


def stairs(rows):
    """The rows in stairs that make the same sums of multiples; the first number of each is above 0."""
    leads = []
    for row in rows:
        fresh = forward(cleared_of_all(row, leads))
        place = first_place(fresh)
        if place < len(fresh):
            leads = [cleared(lead, fresh, place) for lead in leads] + [fresh]
    return sorted(leads, key=first_place)


def cleared_of_all(row, leads):
    """The row with 0 at the first place of each lead row; each lead row has 0 at the first places of the others."""
    left = row
    for lead in leads:
        left = cleared(left, lead, first_place(lead))
    return left


def kernel_rows(rows, width):
    """Rows that make all rows of this width whose products with each of the told ones add up to 0."""
    leads = stairs(rows)
    places = [first_place(lead) for lead in leads]
    found = []
    for free in range(width):
        if free not in places:
            found.append(kernel_row(leads, places, free, width))
    return found


def kernel_row(leads, places, free, width):
    """The one row of the kernel that is not 0 at this free place and is 0 at the other free ones."""
    common = 1
    for lead, place in zip(leads, places):
        common = lcm(common, lead[place])
    row = [0] * width
    row[free] = common
    for lead, place in zip(leads, places):
        row[place] = -lead[free] * (common // lead[place])
    return without_common(row)


def weighed_rows(weights, rows, width):
    """The sum of the rows of this width, each times its weight."""
    total = [0] * width
    for weight, row in zip(weights, rows):
        total = [number + weight * part for number, part in zip(total, row)]
    return total


def weights_for(rows, target):
    """Any fractions by which rows of fractions add up to the target, None if there are none."""
    count = len(rows)
    weights = [ZERO] * count
    wholes = [over_common(row) for row in rows]
    numbers, common = over_common(target)
    equations = [[row[at] for row, _ in wholes] + [number] for at, number in enumerate(numbers)]
    for lead in stairs(equations):
        place = first_place(lead)
        if place == count:
            return None
        weights[place] = ratio(lead[count] * wholes[place][1], lead[place] * common)
    return weights


def determinant(rows):
    """The determinant of as many rows of whole numbers as each row has numbers."""
    left, last, sign = rows, 1, 1
    while left:
        at = first_place([row[0] for row in left])
        if at == len(left):
            return 0
        lead = left[at]
        # Each number is then a determinant of rows of the told ones, so the lead before divides it (Bareiss).
        left = [
            [(lead[0] * number - row[0] * part) // last for number, part in zip(row[1:], lead[1:])]
            for row in left[:at] + left[at + 1:]
        ]
        last = lead[0]
        sign = -sign if at % 2 else sign
    return sign * last
