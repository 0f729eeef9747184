"""Screws: pushes and small moves, their powers, moments, pitches and axes ([10] to [14])."""
from sevenpins.errors import Along, InvalidScrew, NoAxis
from sevenpins.ratios import ratio_product, ratio_quotient, ratio_sum
from sevenpins.triples import check_direction, check_fraction, check_triple, is_triple
from sevenpins.vectors import (
    NOUGHT,
    is_nought,
    vector_cross,
    vector_dot,
    vector_less,
    vector_sum,
    vector_times,
)


def is_screw(value):
    """Whether a value, whatever it is, is a screw."""
    return isinstance(value, tuple) and len(value) == 2 and is_triple(value[0]) and is_triple(value[1])


def is_line(value):
    """Whether a value, whatever it is, is a screw of pitch 0."""
    return is_screw(value) and not is_nought(value[0]) and vector_dot(value[0], value[1])[0] == 0


def check_screw(screw):
    if not is_screw(screw):
        raise InvalidScrew(screw)


def line_at(point, direction):
    """The push at the point along the direction, the turn about the axis there."""
    check_triple(point)
    check_direction(direction)
    return (direction, vector_cross(point, direction))


def slide_along(direction):
    check_direction(direction)
    return (NOUGHT, direction)


def screw_about(point, direction, pitch):
    """The screw with this LINE, this pitch and an axis through the point."""
    check_triple(point)
    check_direction(direction)
    check_fraction(pitch)
    return (direction, vector_sum(vector_cross(point, direction), vector_times(direction, pitch)))


def screw_sum(screw, other):
    check_screw(screw)
    check_screw(other)
    return (vector_sum(screw[0], other[0]), vector_sum(screw[1], other[1]))


def screw_times(screw, fraction):
    check_screw(screw)
    check_fraction(fraction)
    return (vector_times(screw[0], fraction), vector_times(screw[1], fraction))


def power(screw, other):
    """The power of a push on a move."""
    check_screw(screw)
    check_screw(other)
    return ratio_sum(vector_dot(screw[0], other[1]), vector_dot(screw[1], other[0]))


def moment_at(screw, point):
    check_screw(screw)
    check_triple(point)
    return vector_sum(screw[1], vector_cross(screw[0], point))


def pitch_of(screw):
    """The pitch, None for a couple or a slide."""
    check_screw(screw)
    line, moment = screw
    if is_nought(line):
        return None
    return ratio_quotient(vector_dot(line, moment), vector_dot(line, line))


def foot_of(screw):
    """The point of the axis nearest to the origin, for a screw that has an axis."""
    line, moment = screw
    below, above = vector_dot(line, line)
    return vector_times(vector_cross(line, moment), (above, below))


def axis_point(screw):
    """The point of the axis nearest to the origin."""
    check_screw(screw)
    if is_nought(screw[0]):
        raise NoAxis()
    return foot_of(screw)


def check_axes(screw, other):
    check_screw(screw)
    check_screw(other)
    if is_nought(screw[0]) or is_nought(other[0]):
        raise NoAxis()


def share_along(between, line, normal):
    """How often one LINE leads from its axis to the foot on it of the common perpendicular.

    `between` leads from the one axis to the other one, `line` is the other one's LINE, `normal` is LINE x LINE'.
    """
    return ratio_quotient(vector_dot(vector_cross(between, line), normal), vector_dot(normal, normal))


def nearest_points(screw, other):
    """The point of each of the two axes that is nearest to the other axis."""
    check_axes(screw, other)
    normal = vector_cross(screw[0], other[0])
    if is_nought(normal):
        raise Along()
    here, there = foot_of(screw), foot_of(other)
    between = vector_less(there, here)
    return (
        vector_sum(here, vector_times(screw[0], share_along(between, other[0], normal))),
        vector_sum(there, vector_times(other[0], share_along(between, screw[0], normal))),
    )


def apart_square(screw, other):
    """The square of the distance of both axes."""
    check_axes(screw, other)
    between = vector_less(foot_of(other), foot_of(screw))
    normal = vector_cross(screw[0], other[0])
    if is_nought(normal):
        aside = vector_cross(between, screw[0])
        return ratio_quotient(vector_dot(aside, aside), vector_dot(screw[0], screw[0]))
    across = vector_dot(between, normal)
    return ratio_quotient(ratio_product(across, across), vector_dot(normal, normal))
