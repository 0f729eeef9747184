"""Touches and jigs: what holds a body, and the moves that are left to it ([28] to [31], [40])."""
from sevenpins.balances import (
    balance_or_move,
    full_weights_or_move,
    is_left_by,
    order_of_rows,
    pushes_of,
    screw_total,
)
from sevenpins.errors import InvalidIndex, InvalidJig, InvalidTouch
from sevenpins.ratios import ZERO
from sevenpins.screws import check_screw, line_at, power
from sevenpins.systems import back_base, base_of, row_of
from sevenpins.triples import is_direction, is_triple, is_whole
from sevenpins.turnings import check_placing, led_vector, placed
from sevenpins.vectors import AXES, is_nought, vector_cross

MOST_TOUCHES = 12
MOST_ROWS = 24
MOST_POINTS = 6


def are_points(value):
    """Whether a value is a tuple of two to six points, no two the same."""
    if not isinstance(value, tuple) or not 2 <= len(value) <= MOST_POINTS:
        return False
    if not all(is_triple(point) for point in value):
        return False
    return all(point not in value[:at] for at, point in enumerate(value))


def is_groove(parts):
    if len(parts) != 3 or not is_triple(parts[0]) or not is_direction(parts[1]) or not is_direction(parts[2]):
        return False
    return not is_nought(vector_cross(parts[1], parts[2]))


def is_touch(value):
    """Whether a value, whatever it is, is a touch."""
    if not isinstance(value, tuple) or not value or not isinstance(value[0], str):
        return False
    word, parts = value[0], value[1:]
    if word in ("stop", "pin"):
        return len(parts) == 2 and is_triple(parts[0]) and is_direction(parts[1])
    if word == "rest":
        return len(parts) == 2 and are_points(parts[0]) and is_direction(parts[1])
    if word == "groove":
        return is_groove(parts)
    return word == "cup" and len(parts) == 1 and is_triple(parts[0])


def count_rows(touch):
    if touch[0] == "rest":
        return len(touch[1])
    if touch[0] == "groove":
        return 2
    return 3 if touch[0] == "cup" else 1


def jig_fault(value):
    """The index of the first element by which a tuple is no jig, None if there is none."""
    rows = 0
    for index, touch in enumerate(value):
        if index == MOST_TOUCHES or not is_touch(touch):
            return index
        rows += count_rows(touch)
        if rows > MOST_ROWS:
            return index
    return None


def is_jig(value):
    """Whether a value, whatever it is, is a jig."""
    return isinstance(value, tuple) and len(value) > 0 and jig_fault(value) is None


def check_touch(touch):
    if not is_touch(touch):
        raise InvalidTouch(touch)


def check_jig(jig):
    if not isinstance(jig, tuple) or not jig:
        raise InvalidJig(None)
    fault = jig_fault(jig)
    if fault is not None:
        raise InvalidJig(fault)


def check_touch_index(jig, index):
    if not is_whole(index) or not 0 <= index < len(jig):
        raise InvalidIndex(index)


def touch_rows(touch):
    word = touch[0]
    if word in ("stop", "pin"):
        return ((line_at(touch[1], touch[2]), word == "pin"),)
    if word == "rest":
        return tuple((line_at(point, touch[2]), False) for point in touch[1])
    if word == "groove":
        return ((line_at(touch[1], touch[2]), False), (line_at(touch[1], touch[3]), False))
    return tuple((line_at(touch[1], axis), True) for axis in AXES)


def all_rows(jig):
    return tuple(row for touch in jig for row in touch_rows(touch))


def rows_of(touch):
    """The rows of the touch: pairs of a push and whether it pushes both ways."""
    check_touch(touch)
    return touch_rows(touch)


def jig_rows(jig):
    """The rows of the touches of the jig, in order."""
    check_jig(jig)
    return all_rows(jig)


def is_left(jig, move):
    """Whether the move is left by the jig."""
    check_jig(jig)
    check_screw(move)
    return is_left_by(all_rows(jig), move)


def word_of_rows(rows):
    if full_weights_or_move(rows)[0] is None:
        return "loose"
    return "held" if order_of_rows(rows) == 6 else "kept"


def word_of(jig):
    """held, kept or loose."""
    check_jig(jig)
    return word_of_rows(all_rows(jig))


def holding_weights(jig):
    """Weights, above 0 for all rows one way, that make the push 0; None for a loose jig."""
    check_jig(jig)
    weights, _ = full_weights_or_move(all_rows(jig))
    return None if weights is None else tuple(weights)


def kept_base(rows):
    """The system of the moves with power 0 on all rows."""
    return back_base(base_of([row_of(push) for push in pushes_of(rows)]))


def free_move_of(rows):
    """A move that is left and not 0, None if there is none."""
    for move in kept_base(rows):
        return move
    return full_weights_or_move(rows)[1]


def free_move(jig):
    """A move that is left and not 0, None for a jig that is held."""
    check_jig(jig)
    return free_move_of(all_rows(jig))


def keeping(jig):
    """The system of the moves that keep all touches."""
    check_jig(jig)
    return kept_base(all_rows(jig))


def move_off_row(rows, row):
    """A move that is left and has a power above 0 on the row, one of the rows; None if there is none."""
    push, both = row
    return None if both else balance_or_move(rows, push)[1]


def move_off(jig, index):
    rows = all_rows(jig)
    for row in touch_rows(jig[index]):
        move = move_off_row(rows, row)
        if move is not None:
            return move
    return None


def comes_off(jig, index):
    """Whether some move that is left takes the touch off."""
    check_jig(jig)
    check_touch_index(jig, index)
    return move_off(jig, index) is not None


def off_move(jig, index):
    """A move that is left and takes the touch off, None if none does."""
    check_jig(jig)
    check_touch_index(jig, index)
    return move_off(jig, index)


def opposing_weights(rows, at):
    """Weights that make the opposite of the push of the row with this index, None if there are none."""
    push, both = rows[at]
    if both:
        return tuple((-1, 1) if other == at else ZERO for other in range(len(rows)))
    weights, _ = balance_or_move(rows, push)
    return None if weights is None else tuple(weights)


def on_weights(jig, index):
    """For each row of the touch weights that make the opposite of its push; None if the touch comes off."""
    check_jig(jig)
    check_touch_index(jig, index)
    rows, ahead = all_rows(jig), len(all_rows(jig[:index]))
    behind = ahead + count_rows(jig[index])
    found = tuple(opposing_weights(rows, at) for at in range(ahead, behind))
    return None if None in found else found


def opening_move(jig):
    """A move that is left and takes off all touches that come off, None if none does."""
    check_jig(jig)
    rows, moves = all_rows(jig), []
    for row in rows:
        # Powers of moves that are left are not below 0, so what one of them takes off stays off in their sum.
        if not any(power(row[0], move)[0] > 0 for move in moves):
            move = move_off_row(rows, row)
            if move is not None:
                moves.append(move)
    return screw_total(moves) if moves else None


def placed_touch(touch, placing):
    word, point = touch[0], touch[1]
    directions = tuple(led_vector(placing[0], direction) for direction in touch[2:])
    if word == "rest":
        return (word, tuple(placed(placing, part) for part in point)) + directions
    return (word, placed(placing, point)) + directions


def placed_jig(jig, placing):
    """The jig with its points placed and its directions turned."""
    check_jig(jig)
    check_placing(placing)
    return tuple(placed_touch(touch, placing) for touch in jig)
