"""Turnings and placings: bodies turned and shifted in space ([8], [9], [13])."""
from sevenpins.errors import InvalidPlacing, InvalidTurning
from sevenpins.ratios import forward, over_common, ratio
from sevenpins.screws import check_screw
from sevenpins.triples import check_triple, is_triple, is_whole
from sevenpins.vectors import vector_cross, vector_sum, vector_times, whole_cross


def are_four_wholes(value):
    return isinstance(value, tuple) and len(value) == 4 and all(is_whole(part) for part in value)


def is_turning(value):
    """Whether a value, whatever it is, is a turning."""
    return are_four_wholes(value) and any(value) and forward(value) == list(value)


def is_placing(value):
    """Whether a value, whatever it is, is a placing."""
    return isinstance(value, tuple) and len(value) == 2 and is_turning(value[0]) and is_triple(value[1])


def check_turning(turning):
    if not is_turning(turning):
        raise InvalidTurning(turning)


def check_placing(placing):
    if not is_placing(placing):
        raise InvalidPlacing(placing)


def turning_of(numbers):
    """The turning of which four whole numbers, not all 0, are a multiple."""
    if not are_four_wholes(numbers) or not any(numbers):
        raise InvalidTurning(numbers)
    return tuple(forward(numbers))


def led_vector(turning, vector):
    """The triple turned; nothing is checked."""
    w, x, y, z = turning
    numbers, below = over_common(vector)
    square = x * x + y * y + z * z
    along = x * numbers[0] + y * numbers[1] + z * numbers[2]
    across = whole_cross((x, y, z), numbers)
    return tuple(
        ratio((w * w - square) * number + 2 * along * lead + 2 * w * aside, below * (w * w + square))
        for number, lead, aside in zip(numbers, (x, y, z), across)
    )


def joined_parts(first, second):
    """The turning that turns as the first one and then the second one; nothing is checked."""
    w, x, y, z = first
    a, b, c, d = second
    return tuple(forward((
        a * w - b * x - c * y - d * z,
        a * x + b * w + c * z - d * y,
        a * y + c * w + d * x - b * z,
        a * z + d * w + b * y - c * x,
    )))


def back_parts(turning):
    w, x, y, z = turning
    return tuple(forward((w, -x, -y, -z)))


def turned(turning, triple):
    check_turning(turning)
    check_triple(triple)
    return led_vector(turning, triple)


def joined_turnings(turning, other):
    """Both turnings joined, the first one first."""
    check_turning(turning)
    check_turning(other)
    return joined_parts(turning, other)


def back_turning(turning):
    check_turning(turning)
    return back_parts(turning)


def placed(placing, point):
    """The point to which the placing leads."""
    check_placing(placing)
    check_triple(point)
    return vector_sum(led_vector(placing[0], point), placing[1])


def joined_placings(placing, other):
    """Both placings joined, the first one first."""
    check_placing(placing)
    check_placing(other)
    shift = vector_sum(led_vector(other[0], placing[1]), other[1])
    return (joined_parts(placing[0], other[0]), shift)


def back_placing(placing):
    check_placing(placing)
    turning = back_parts(placing[0])
    return (turning, vector_times(led_vector(turning, placing[1]), (-1, 1)))


def placed_screw(placing, screw):
    """The screw to which the placing leads."""
    check_placing(placing)
    check_screw(screw)
    line, moment = led_vector(placing[0], screw[0]), led_vector(placing[0], screw[1])
    return (line, vector_sum(moment, vector_cross(placing[1], line)))
