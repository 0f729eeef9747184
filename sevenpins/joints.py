"""Joints, arms and legs: the moves that they let, the pushes that they bear ([22], [23])."""
from sevenpins.errors import InvalidArm, InvalidJoint, InvalidLegs
from sevenpins.rows import weights_for
from sevenpins.screws import check_screw, line_at, power, screw_about, slide_along
from sevenpins.systems import (
    back_base,
    base_of,
    directions_across,
    joined_bases,
    numbers_of,
    rows_in,
    system_of,
)
from sevenpins.triples import is_direction, is_fraction, is_triple
from sevenpins.vectors import AXES, NOUGHT

PARTS = {
    "turn": ("point", "direction"),
    "slide": ("direction",),
    "screw": ("point", "direction", "pitch"),
    "cylinder": ("point", "direction"),
    "ball": ("point",),
    "plane": ("direction",),
    "fixed": (),
    "free": (),
}
MOST_JOINTS = 8
MOST_ARMS = 6


def is_part(kind, value):
    if kind == "point":
        return is_triple(value)
    return is_direction(value) if kind == "direction" else is_fraction(value)


def is_joint(value):
    """Whether a value, whatever it is, is a joint."""
    if not isinstance(value, tuple) or not value or not isinstance(value[0], str) or value[0] not in PARTS:
        return False
    kinds, parts = PARTS[value[0]], value[1:]
    return len(parts) == len(kinds) and all(is_part(kind, part) for kind, part in zip(kinds, parts))


def is_arm(value):
    return isinstance(value, tuple) and 1 <= len(value) <= MOST_JOINTS and all(is_joint(part) for part in value)


def check_joint(joint):
    if not is_joint(joint):
        raise InvalidJoint(joint)


def check_arm(arm):
    if not isinstance(arm, tuple) or not arm:
        raise InvalidArm(None)
    for index, joint in enumerate(arm):
        if index == MOST_JOINTS or not is_joint(joint):
            raise InvalidArm(index)


def check_legs(legs):
    if not isinstance(legs, tuple) or not legs:
        raise InvalidLegs(None)
    for index, arm in enumerate(legs):
        if index == MOST_ARMS or not is_arm(arm):
            raise InvalidLegs(index)


def lead_screw(joint):
    """The one screw of a turn, a slide or a screw, of which the moves of the joint are the multiples."""
    if joint[0] == "turn":
        return line_at(joint[1], joint[2])
    if joint[0] == "slide":
        return slide_along(joint[1])
    return screw_about(joint[1], joint[2], joint[3])


def screws_of(joint):
    """Screws that make the moves of the joint."""
    word = joint[0]
    if word in ("turn", "slide", "screw"):
        return (lead_screw(joint),)
    if word == "cylinder":
        return (line_at(joint[1], joint[2]), slide_along(joint[2]))
    if word == "ball":
        return tuple(line_at(joint[1], axis) for axis in AXES)
    if word == "plane":
        slides = tuple(slide_along(across) for across in directions_across(joint[1]))
        return (line_at(NOUGHT, joint[1]),) + slides
    if word == "fixed":
        return ()
    return tuple(line_at(NOUGHT, axis) for axis in AXES) + tuple(slide_along(axis) for axis in AXES)


def joint_base(joint):
    return system_of(screws_of(joint))


def arm_base(arm):
    rows = []
    for joint in arm:
        rows.extend(rows_in(screws_of(joint)))
    return base_of(rows)


def moves_of(joint):
    """The system of the moves that the joint lets."""
    check_joint(joint)
    return joint_base(joint)


def bears_of(joint):
    """The system of the pushes that the joint bears."""
    check_joint(joint)
    return back_base(joint_base(joint))


def arm_moves(arm):
    """The system of the moves of the arm's hand."""
    check_arm(arm)
    return arm_base(arm)


def arm_bears(arm):
    """The system of the pushes that the arm bears without anything that drives its joints."""
    check_arm(arm)
    return back_base(arm_base(arm))


def legs_bearing(legs):
    borne = ()
    for arm in legs:
        borne = joined_bases(borne, back_base(arm_base(arm)))
    return borne


def legs_moves(legs):
    """The system of the moves that all the arms let their one body do."""
    check_legs(legs)
    return back_base(legs_bearing(legs))


def legs_bears(legs):
    """The system of the pushes that the arms bear together."""
    check_legs(legs)
    return legs_bearing(legs)


def rates_for(arm, move):
    """Rates by which the hand does the move: for each joint the shares of its move; None if there are none."""
    check_arm(arm)
    check_screw(move)
    bases = [joint_base(joint) for joint in arm]
    rows = [numbers_of(screw) for base in bases for screw in base]
    found = weights_for(rows, numbers_of(move))
    if found is None:
        return None
    rates, done = [], 0
    for base in bases:
        rates.append(tuple(found[done:done + len(base)]))
        done += len(base)
    return tuple(rates)


def barring_push(arm, move):
    """A push that the arm bears and that has a power other than 0 on the move, None if the hand can do it."""
    check_arm(arm)
    check_screw(move)
    for push in back_base(arm_base(arm)):
        if power(push, move)[0] != 0:
            return push
    return None


def idle_order(arm):
    """The order of all ways in which the arm's joints move while the hand rests."""
    check_arm(arm)
    return sum(len(joint_base(joint)) for joint in arm) - len(arm_base(arm))
