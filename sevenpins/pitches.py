"""The pitches of the screws of a system ([19] to [21])."""
from sevenpins.errors import InvalidNumber
from sevenpins.forms import signs_of, squares
from sevenpins.ratios import ratio_quotient
from sevenpins.rows import inner, weighed_rows
from sevenpins.screws import line_at, nearest_points, screw_sum, screw_times
from sevenpins.systems import check_system, row_of, slides_of, whole_screw
from sevenpins.triples import check_fraction, is_whole, plain_direction
from sevenpins.vectors import is_nought, vector_cross, vector_dot, vector_less, vector_times

MOST = 10 ** 12


def bent_rows(rows):
    """The matrices of twice LINE . MOMENT and of twice LINE . LINE, for rows of six whole numbers."""
    bent = [[inner(row[:3], other[3:]) + inner(row[3:], other[:3]) for other in rows] for row in rows]
    square = [[2 * inner(row[:3], other[:3]) for other in rows] for row in rows]
    return bent, square


def matrix_at(matrices, above, below):
    """The matrix of the form at above / below, times a number above 0."""
    bent, square = matrices
    return [
        [below * moment - above * line for moment, line in zip(moments, lines)]
        for moments, lines in zip(bent, square)
    ]


def squares_at(system, fraction):
    """Pairs of a number and a screw: the squares of the form, the numbers right in sign alone."""
    rows = [row_of(screw) for screw in system]
    found = squares(matrix_at(bent_rows(rows), fraction[0], fraction[1]))
    return [(number, whole_screw(weighed_rows(weights, rows, 6))) for number, weights in found]


def signs_of_rows(rows, fraction):
    return signs_of(matrix_at(bent_rows(rows), fraction[0], fraction[1]))


def signs_in(system, fraction):
    return signs_of_rows([row_of(screw) for screw in system], fraction)


def signs_at(system, fraction):
    """How many squares of the form at the fraction have numbers above, at, below 0."""
    check_system(system)
    check_fraction(fraction)
    return signs_in(system, fraction)


def opens(system):
    return any(
        vector_dot(slide[1], screw[0])[0] != 0 for slide in slides_of(system) for screw in system
    )


def is_open(system):
    """Whether some slide is not at right angles to LINE of some screw of the system."""
    check_system(system)
    return opens(system)


def screw_of_sign(found, sign):
    for number, screw in found:
        if number * sign > 0:
            return screw
    return None


def screw_below(system, fraction):
    """A screw of the system with a pitch below the fraction, None if there is none."""
    check_system(system)
    check_fraction(fraction)
    return screw_of_sign(squares_at(system, fraction), -1)


def screw_above(system, fraction):
    """A screw of the system with a pitch above the fraction, None if there is none."""
    check_system(system)
    check_fraction(fraction)
    return screw_of_sign(squares_at(system, fraction), 1)


def count_of(system, fraction):
    above, at, below = signs_in(system, fraction)
    slides = len(slides_of(system))
    if above > 0 and below > 0:
        if len(system) > 2:
            return "endless"
        return "one" if slides else "two"
    # The form takes one sign, so it is 0 at sums of the squares at 0 alone, and all slides are among these.
    if at == slides:
        return "none"
    return "one" if at == 1 else "endless"


def has_pitch(system, fraction):
    """Whether some screw of the system, told by fractions or not, has this pitch."""
    check_system(system)
    check_fraction(fraction)
    return count_of(system, fraction) != "none"


def pitch_count(system, fraction):
    """How many screws of the system have this pitch: none, one, two or endless."""
    check_system(system)
    check_fraction(fraction)
    return count_of(system, fraction)


def pitch_pair(system, fraction):
    """A pair of screws between which one has this pitch, None if no screw of the system has it."""
    check_system(system)
    check_fraction(fraction)
    found = squares_at(system, fraction)
    above, below = screw_of_sign(found, 1), screw_of_sign(found, -1)
    if above is None or below is None:
        for number, screw in found:
            if number == 0 and not is_nought(screw[0]):
                return (screw, screw)
        return None
    return leaned_pair(above, below, fraction)


def leaned_pair(above, below, fraction):
    """A pair of [20] of two screws of which the form makes 0, above 0 at the one and below 0 at the other one."""
    if vector_dot(above[0], below[0])[0] == 0:
        # The form at n times the one and once the other one is n n times that at the one and once that at the other.
        times = ratio_quotient(form_of(below, fraction), form_of(above, fraction))
        often = 1 - times[0] // times[1]
        above = screw_sum(screw_times(above, (often, 1)), below)
    if vector_dot(above[0], below[0])[0] < 0:
        below = screw_times(below, (-1, 1))
    return (above, below)


def form_of(screw, fraction):
    """LINE . MOMENT less the fraction times LINE . LINE."""
    line, moment = screw
    return vector_dot(line, vector_less(moment, vector_times(line, fraction)))


def principal_rows(system):
    """Rows that make the system together with its slides."""
    return [row_of(screw) for screw in system if not is_nought(screw[0])]


def principal_counts(system, fraction):
    """How many principal pitches are above, at, below the fraction; None for an open system."""
    check_system(system)
    check_fraction(fraction)
    if opens(system):
        return None
    # The slides of a system that is not open add just as many squares at 0.
    return signs_of_rows(principal_rows(system), fraction)


def check_many(many):
    if not is_whole(many) or not 1 <= many <= MOST:
        raise InvalidNumber(many)


def least_near(system, many):
    """The greatest whole number that is not above `many` times the least principal pitch."""
    return near_principal(system, many, lambda signs: signs[2] == 0)


def greatest_near(system, many):
    """The greatest whole number that is not above `many` times the greatest principal pitch."""
    return near_principal(system, many, lambda signs: signs[0] + signs[1] > 0)


def near_principal(system, many, is_up_to):
    """The greatest whole number n of which `is_up_to` says, by the signs at n / many, that it is not above a pitch."""
    check_system(system)
    check_many(many)
    if opens(system):
        return "all"
    rows = principal_rows(system)
    if not rows:
        return None
    matrices = bent_rows(rows)
    return greatest_whole(lambda number: is_up_to(signs_of(matrix_at(matrices, number, many))))


def greatest_whole(holds):
    """The greatest whole number for which `holds` is true; it is true below some number, and not above it."""
    low, high = -1, 1
    while not holds(low):
        low *= 2
    while holds(high):
        high *= 2
    while high - low > 1:
        middle = (low + high) // 2
        if holds(middle):
            low = middle
        else:
            high = middle
    return low


def crossing_line(system):
    """The line that the axes of a system of order 2 without slides meet at right angles; None for another one."""
    check_system(system)
    if len(system) != 2 or slides_of(system):
        return None
    first, second = system
    normal = plain_direction(vector_cross(first[0], second[0]))
    return line_at(nearest_points(first, second)[0], normal)
